"""Points 6 and 7: the first state, and who sees what in a state."""

import unittest
from copy import deepcopy

from makers import RULE, RULES, SMALL, chance_of, some_house, some_state, with_part
from makers import wrong_houses, wrong_numbers, wrong_rules, wrong_states
from model import Model, model_first
from sawwhen.errors import BadFolder, BadHouse, BadPerson, BadRule, BadState
from sawwhen.houses import all_sights, first_state, sees

HOUSE = (2, (0, 0), (False, False, False), (), ())
STATE = ((0, 0), (False, False, False), (), (), ((), ()))
BAR, NEAR = ("bar", "keeps", "now", True), ("near", "keeps", "now", True)


def rule_of(first="bar", moving="keeps", known="now", deep=True):
    return (first, moving, known, deep)


def allow(folder, who):
    return (folder, who, "allow")


def bar(folder, who):
    return (folder, who, "bar")


P0, P1, P3, G0, G1, G2 = ("p", 0), ("p", 1), ("p", 3), ("g", 0), ("g", 1), ("g", 2)


class FirstState(unittest.TestCase):
    def test_small(self):
        parts = ((0,), (False, False), ((0, G0, "allow"),), ((0, P1),))
        for rule in RULES:
            self.assertEqual(first_state(SMALL, rule), parts + (((), (0,)),))
        self.assertEqual(first_state(house=SMALL, rule=RULE), parts + (((), (0,)),))

    def test_logins_are_kept_by_deep(self):
        house = (2, (), (True,), (), ((0, P0), (1, G2), (2, G0), (2, P1)))
        for rule in RULES:
            logins = ((0, 1, 2), (1, 2)) if rule[3] else ((0,), (2,))
            self.assertEqual(first_state(house, rule), ((), (True,), (), house[4], logins))

    def test_a_row_of_groups_backwards(self):
        house = (1, (), (False,), (), ((0, G1), (1, G2), (2, P0)))
        self.assertEqual(first_state(house, rule_of(deep=True))[4], ((0, 1, 2),))
        self.assertEqual(first_state(house, rule_of(deep=False))[4], ((2,),))

    def test_one_person_and_four(self):
        for people in (1, 4):
            house = (people, (), (False,), (), ((1, ("p", people - 1)),))
            self.assertEqual(first_state(house, RULE)[4], ((),) * (people - 1) + ((1,),))

    def test_against_the_model(self):
        chance = chance_of(61)
        for _ in range(300):
            house, rule = some_house(chance), chance.choice(RULES)
            kept = deepcopy(house)
            state = first_state(house, rule)
            self.assertEqual(state, model_first(house, rule))
            self.assertEqual(first_state(house, rule), state)
            self.assertEqual(house, kept)
            self.assertIsInstance(state, tuple)

    def test_wrong(self):
        for house in wrong_houses():
            with self.assertRaises(BadHouse, msg=house):
                first_state(house, RULE)
        for rule in wrong_rules():
            with self.assertRaises(BadRule, msg=rule):
                first_state(HOUSE, rule)
        with self.assertRaises(BadHouse):
            first_state(None, None)


class Sees(unittest.TestCase):
    def told(self, wanted, rule, state, person, folder):
        house = (len(state[4]), (0,) * len(state[0]), (False,) * len(state[1]), (), ())
        self.assertIs(sees(house, rule, state, person, folder), wanted, (rule, state, person, folder))
        self.assertEqual((person, folder) in all_sights(house, rule, state), wanted)

    def test_the_example(self):
        state = first_state(SMALL, RULE)
        self.assertEqual(all_sights(SMALL, RULE, state), [(1, 0), (1, 1)])
        self.assertIs(sees(SMALL, RULE, state, 1, 1), True)
        self.assertIs(sees(SMALL, RULE, state, 0, 1), False)
        self.assertIs(sees(house=SMALL, rule=RULE, state=state, person=1, folder=0), True)
        self.assertEqual(all_sights(house=SMALL, rule=RULE, state=state), [(1, 0), (1, 1)])

    def test_nobody_sees_without_an_entry(self):
        for rule in RULES:
            for person in (0, 1):
                for folder in (0, 1, 2):
                    self.told(False, rule, STATE, person, folder)
            self.assertEqual(all_sights(HOUSE, rule, STATE), [])

    def test_entries_of_others_do_not_count(self):
        state = with_part(STATE, 2, (allow(0, G0), allow(0, P1)))
        for rule in RULES:
            self.told(False, rule, state, 0, 0)
            self.told(True, rule, state, 1, 0)
            self.assertEqual(all_sights(HOUSE, rule, state), [(1, 0), (1, 1), (1, 2)])

    def test_a_number_is_not_both_person_and_group(self):
        state = with_part(with_part(STATE, 2, (allow(0, P1),)), 3, ((1, P0),))
        for rule in RULES:
            self.told(False, rule, with_part(state, 4, ((1,), ())), 0, 0)
            self.told(True, rule, state, 1, 0)

    def test_one_bar_on_the_way(self):
        state = with_part(STATE, 0, (0, 1))
        for entries in ((allow(0, P0), bar(2, P0)), (bar(0, P0), allow(1, P0), allow(2, P0)), (bar(1, P0), allow(2, P0))):
            self.told(False, BAR, with_part(state, 2, entries), 0, 2)
        self.told(True, BAR, with_part(state, 2, (allow(0, P0), bar(2, P0))), 0, 1)
        self.told(True, BAR, with_part(state, 2, (allow(0, P0), allow(1, P0))), 0, 2)

    def test_the_nearest_folder_decides(self):
        state = with_part(STATE, 0, (0, 1))
        near = with_part(state, 2, (bar(0, P0), allow(1, P0)))
        self.told(True, NEAR, near, 0, 2)
        self.told(True, NEAR, near, 0, 1)
        self.told(False, NEAR, near, 0, 0)
        barred = with_part(state, 2, (allow(0, P0), bar(1, P0)))
        self.told(False, NEAR, barred, 0, 2)
        self.told(False, NEAR, barred, 0, 1)
        self.told(True, NEAR, barred, 0, 0)

    def test_a_bar_at_the_nearest_folder_decides(self):
        state = with_part(with_part(STATE, 2, (allow(0, G0), bar(0, G1), allow(0, P0))), 3, ((0, P0), (1, P0)))
        for first in ("bar", "near"):
            self.told(False, rule_of(first), state, 0, 0)
            self.told(False, rule_of(first), state, 0, 2)
            self.told(True, rule_of(first), with_part(state, 3, ((0, P0),)), 0, 2)

    def test_the_nearest_folder_has_an_entry_that_counts(self):
        state = with_part(with_part(STATE, 0, (0, 1)), 2, (allow(0, P0), bar(1, P1), bar(2, G0)))
        self.told(True, NEAR, state, 0, 2)
        self.told(True, BAR, state, 0, 2)
        self.told(False, NEAR, with_part(state, 3, ((0, P0),)), 0, 2)

    def test_folders_beside_and_below_are_not_on_the_way(self):
        state = with_part(STATE, 2, (allow(0, P0), bar(2, P0)))
        for rule in (BAR, NEAR):
            self.told(True, rule, state, 0, 1)
            self.told(False, rule, state, 0, 2)
            below = with_part(state, 0, (0, 1))
            self.told(True, rule, below, 0, 1)
            self.told(True, rule, below, 0, 0)

    def test_a_shut_folder_takes_nothing_from_above(self):
        state = with_part(with_part(STATE, 0, (0, 1)), 2, (allow(0, P0),))
        for rule in (BAR, NEAR):
            self.told(True, rule, state, 0, 2)
            self.told(False, rule, with_part(state, 1, (False, False, True)), 0, 2)
            self.told(False, rule, with_part(state, 1, (False, True, False)), 0, 2)
            self.told(True, rule, with_part(state, 1, (True, False, False)), 0, 2)
            self.told(True, rule, with_part(state, 1, (False, False, True)), 0, 1)

    def test_a_shut_folder_belongs_to_the_way(self):
        state = with_part(with_part(STATE, 0, (0, 1)), 1, (False, True, False))
        for rule in (BAR, NEAR):
            self.told(True, rule, with_part(state, 2, (bar(0, P0), allow(1, P0))), 0, 2)
            self.told(False, rule, with_part(state, 2, (allow(0, P0), bar(1, P0))), 0, 2)
            self.told(True, rule, with_part(state, 2, (bar(0, P0), allow(1, P0))), 0, 1)

    def test_folder_0_shut(self):
        state = with_part(with_part(STATE, 1, (True, False, False)), 2, (allow(0, P0),))
        for rule in RULES:
            self.assertEqual(all_sights(HOUSE, rule, state), [(0, 0), (0, 1), (0, 2)])

    def test_groups_in_groups(self):
        members = ((0, P0), (1, G0), (2, G1))
        for group, entries in ((0, (allow(0, G0),)), (1, (allow(0, G1),)), (2, (allow(0, G2),))):
            state = with_part(with_part(STATE, 2, entries), 3, members)
            for first in ("bar", "near"):
                self.told(True, rule_of(first, deep=True), state, 0, 1)
                self.told(group == 0, rule_of(first, deep=False), state, 0, 1)

    def test_one_does_not_belong_to_the_groups_within_a_group(self):
        state = with_part(with_part(STATE, 2, (allow(0, G0),)), 3, ((1, G0), (1, P0)))
        for rule in RULES:
            self.told(False, rule, state, 0, 0)

    def test_a_bar_through_other_groups(self):
        state = with_part(with_part(STATE, 2, (bar(0, G2), allow(1, P0))), 3, ((1, P0), (2, G1)))
        self.told(False, rule_of("bar", deep=True), state, 0, 1)
        self.told(True, rule_of("bar", deep=False), state, 0, 1)
        self.told(True, rule_of("near", deep=True), state, 0, 1)

    def test_groups_now_or_at_the_last_login(self):
        state = ((0, 0), (False,) * 3, (allow(0, G0), allow(1, G1), allow(2, G2)), ((0, P0), (1, G0)), ((2,), (1,)))
        for first in ("bar", "near"):
            now = rule_of(first, known="now", deep=True)
            self.assertEqual(all_sights(HOUSE, now, state), [(0, 0), (0, 1), (0, 2)])
            now = rule_of(first, known="now", deep=False)
            self.assertEqual(all_sights(HOUSE, now, state), [(0, 0), (0, 1), (0, 2)])
            now = rule_of(first, known="now", deep=True)
            self.assertEqual(all_sights(HOUSE, now, with_part(state, 1, (True,) * 3)), [(0, 0), (0, 1)])
            for deep in (False, True):
                login = rule_of(first, known="login", deep=deep)
                self.assertEqual(all_sights(HOUSE, login, state), [(0, 2), (1, 1)])

    def test_logins_that_never_came_about_count_as_they_are(self):
        state = with_part(with_part(STATE, 2, (allow(0, G1),)), 3, ((1, G0),))
        for deep in (False, True):
            login = rule_of(known="login", deep=deep)
            self.told(False, login, with_part(state, 4, ((0,), ())), 0, 0)
            self.told(True, login, with_part(state, 4, ((0, 1, 2), ())), 0, 0)

    def test_moving_changes_no_sight(self):
        chance = chance_of(71)
        for _ in range(40):
            state = some_state(chance, 2, 4)
            house = some_house(chance, 2, 4)
            for first, _, known, deep in RULES:
                self.assertEqual(
                    all_sights(house, (first, "keeps", known, deep), state),
                    all_sights(house, (first, "drops", known, deep), state))

    def test_four_people_and_six_folders_in_a_row(self):
        house = (4, (0,) * 5, (False,) * 6, (), ())
        state = ((2, 3, 4, 5, 0), (False,) * 6, (allow(0, P3),), (), ((),) * 4)
        self.assertEqual(all_sights(house, BAR, state), [(3, folder) for folder in range(6)])
        shut = with_part(state, 1, (False, False, False, True, False, False))
        self.assertEqual(all_sights(house, BAR, shut), [(3, 0), (3, 4), (3, 5)])

    def test_the_state_tells_and_not_the_house(self):
        house = (2, (0, 1), (True, True, True), (bar(0, P0), bar(1, P0), bar(2, P0)), ((0, P1),))
        self.assertEqual(all_sights(house, BAR, with_part(STATE, 2, (allow(0, P0),))), [(0, 0), (0, 1), (0, 2)])

    def test_against_the_model(self):
        chance = chance_of(72)
        for _ in range(250):
            people, folders = chance.randint(1, 4), chance.randint(1, 6)
            house, state = some_house(chance, people, folders), some_state(chance, people, folders)
            kept = deepcopy((house, state))
            for rule in RULES:
                model = Model(rule, state)
                spots = [(person, folder) for person in range(people) for folder in range(folders)]
                wanted = [(person, folder) for person, folder in spots if model.sees(person, folder)]
                self.assertEqual(all_sights(house, rule, state), wanted)
                for person, folder in chance.sample(spots, min(3, len(spots))):
                    self.assertIs(sees(house, rule, state, person, folder), (person, folder) in wanted)
            self.assertEqual((house, state), kept)

    def test_each_list_is_new(self):
        state = with_part(STATE, 2, (allow(0, P0),))
        first = all_sights(HOUSE, RULE, state)
        wanted = list(first)
        first.clear()
        second = all_sights(HOUSE, RULE, state)
        self.assertEqual(second, wanted)
        self.assertIs(type(second), list)
        self.assertIs(type(second[0]), tuple)


class Wrong(unittest.TestCase):
    def test_houses(self):
        for house in wrong_houses():
            with self.assertRaises(BadHouse, msg=house):
                sees(house, RULE, STATE, 0, 0)
            with self.assertRaises(BadHouse, msg=house):
                all_sights(house, RULE, STATE)

    def test_rules(self):
        for rule in wrong_rules():
            with self.assertRaises(BadRule, msg=rule):
                sees(HOUSE, rule, STATE, 0, 0)
            with self.assertRaises(BadRule, msg=rule):
                all_sights(HOUSE, rule, STATE)

    def test_states(self):
        for state in wrong_states() + [HOUSE]:
            with self.assertRaises(BadState, msg=state):
                sees(HOUSE, RULE, state, 0, 0)
            with self.assertRaises(BadState, msg=state):
                all_sights(HOUSE, RULE, state)

    def test_states_of_houses_of_all_sizes(self):
        chance = chance_of(73)
        sizes = [(people, folders) for people in range(1, 5) for folders in range(1, 7)]
        states = {size: some_state(chance, size[0], size[1], many=0) for size in sizes}
        for size in sizes:
            house = some_house(chance, size[0], size[1], many=0)
            for other in sizes:
                state = with_part(states[other], 3, ())
                if size == other:
                    self.assertEqual(all_sights(house, RULE, state), [])
                else:
                    with self.assertRaises(BadState, msg=(size, other)):
                        all_sights(house, RULE, state)

    def test_persons(self):
        for person in wrong_numbers(2):
            with self.assertRaises(BadPerson, msg=person):
                sees(HOUSE, RULE, STATE, person, 0)
        for people in range(1, 5):
            house, state = (people, (), (True,), (), ()), ((), (True,), (), (), ((),) * people)
            for person in range(people):
                self.assertIs(sees(house, RULE, state, person, 0), False)
            with self.assertRaises(BadPerson):
                sees(house, RULE, state, people, 0)

    def test_folders(self):
        for folder in wrong_numbers(3):
            with self.assertRaises(BadFolder, msg=folder):
                sees(HOUSE, RULE, STATE, 0, folder)
        for folders in range(1, 7):
            house = (1, (0,) * (folders - 1), (False,) * folders, (), ())
            state = house[1:] + (((),),)
            for folder in range(folders):
                self.assertIs(sees(house, RULE, state, 0, folder), False)
            with self.assertRaises(BadFolder):
                sees(house, RULE, state, 0, folders)

    def test_the_first_wrong_argument_tells(self):
        good = (HOUSE, RULE, STATE, 0, 0)
        errors = (BadHouse, BadRule, BadState, BadPerson, BadFolder)
        for mask in range(1, 32):
            wrong = [at for at in range(5) if mask >> at & 1]
            for thing in (None, True, [], "x"):
                row = [thing if at in wrong else good[at] for at in range(5)]
                with self.assertRaises(errors[wrong[0]], msg=row):
                    sees(*row)
                if wrong[0] < 3:
                    with self.assertRaises(errors[wrong[0]], msg=row):
                        all_sights(*row[:3])


if __name__ == "__main__":
    unittest.main()
