"""Points 8 and 9: what deeds do."""

import unittest
from copy import deepcopy

from makers import RULE, RULES, SMALL, all_deeds, all_spots, all_trees, chance_of, some_house, some_state, with_part
from makers import wrong_deeds, wrong_houses, wrong_rules, wrong_states
from model import model_after, model_first
from sawwhen.deeds import after_deed, after_deeds
from sawwhen.errors import BadDeed, BadDeeds, BadHouse, BadRule, BadState
from sawwhen.houses import first_state

HOUSE = (2, (0, 0), (False, False, False), (), ())
STATE = ((0, 0), (False, False, False), (), (), ((), ()))
WIDE = (2, (0,) * 5, (False,) * 6, (), ())
ROW = (2, (0, 1, 2, 3, 4), (False,) * 6, (), ())
P0, P1, G0, G1, G2 = ("p", 0), ("p", 1), ("g", 0), ("g", 1), ("g", 2)
KEEPS, DROPS = ("bar", "keeps", "now", True), ("bar", "drops", "now", True)


def state_of(house):
    return first_state(house, RULE)


class Case(unittest.TestCase):
    def gives(self, house, state, deed, wanted, rules=RULES):
        for rule in rules:
            kept = deepcopy((house, rule, state, deed))
            self.assertEqual(after_deed(house, rule, state, deed), wanted, (rule, state, deed))
            self.assertEqual((house, rule, state, deed), kept)

    def does_nothing(self, house, state, deed, rules=RULES):
        self.gives(house, state, deed, state, rules)


class Entries(Case):
    def test_allow_and_bar_put_an_entry(self):
        for who in (P0, P1, G0, G1, G2):
            for folder in (0, 1, 2):
                for kind in ("allow", "bar"):
                    self.gives(HOUSE, STATE, (kind, folder, who), with_part(STATE, 2, ((folder, who, kind),)))

    def test_entries_stay_ascending(self):
        state = with_part(STATE, 2, ((0, G1, "bar"), (1, P0, "allow")))
        wanted = with_part(STATE, 2, ((0, G1, "bar"), (0, P1, "allow"), (1, P0, "allow")))
        self.gives(HOUSE, state, ("allow", 0, P1), wanted)
        wanted = with_part(STATE, 2, ((0, G0, "bar"), (0, G1, "bar"), (1, P0, "allow")))
        self.gives(HOUSE, state, ("bar", 0, G0), wanted)
        self.gives(HOUSE, state, ("bar", 2, G0), with_part(STATE, 2, state[2] + ((2, G0, "bar"),)))

    def test_an_entry_takes_the_place_of_one_that_stands_there(self):
        for old in ("allow", "bar"):
            state = with_part(STATE, 2, ((0, G0, "bar"), (1, G0, old), (1, P0, "bar")))
            for new in ("allow", "bar"):
                wanted = with_part(STATE, 2, ((0, G0, "bar"), (1, G0, new), (1, P0, "bar")))
                self.gives(HOUSE, state, (new, 1, G0), wanted)

    def test_clear_takes_out_one_entry(self):
        state = with_part(STATE, 2, ((0, G0, "bar"), (1, G0, "allow"), (1, P0, "bar")))
        self.gives(HOUSE, state, ("clear", 1, G0), with_part(STATE, 2, ((0, G0, "bar"), (1, P0, "bar"))))
        self.gives(HOUSE, state, ("clear", 1, P0), with_part(STATE, 2, ((0, G0, "bar"), (1, G0, "allow"))))
        for deed in (("clear", 2, G0), ("clear", 1, P1), ("clear", 0, P0)):
            self.does_nothing(HOUSE, state, deed)

    def test_a_thirteenth_entry_is_not_put(self):
        spots = all_spots(2, 6)
        full = tuple(sorted(spot + ("bar",) for spot in spots[:12]))
        state = with_part(state_of(WIDE), 2, full)
        for spot in spots[12:]:
            self.does_nothing(WIDE, state, ("allow",) + spot)
            self.does_nothing(WIDE, state, ("bar",) + spot)

    def test_with_twelve_entries_one_of_them_is_changed(self):
        spots = all_spots(2, 6)[5:17]
        state = with_part(state_of(WIDE), 2, tuple(sorted(spot + ("bar",) for spot in spots)))
        for spot in spots:
            others = [other + ("bar",) for other in spots if other != spot]
            self.gives(WIDE, state, ("allow",) + spot, with_part(state, 2, tuple(sorted(others + [spot + ("allow",)]))))
            self.does_nothing(WIDE, state, ("bar",) + spot)
            self.gives(WIDE, state, ("clear",) + spot, with_part(state, 2, tuple(sorted(others))))

    def test_a_twelfth_entry_is_put(self):
        spots = all_spots(2, 6)
        state = with_part(state_of(WIDE), 2, tuple(sorted(spot + ("bar",) for spot in spots[:11])))
        for spot in spots[11:]:
            for kind in ("allow", "bar"):
                wanted = with_part(state, 2, tuple(sorted(state[2] + (spot + (kind,),))))
                self.gives(WIDE, state, (kind,) + spot, wanted)


class Members(Case):
    def test_join_and_leave(self):
        for group in (0, 1, 2):
            for who in (P0, P1):
                joined = with_part(STATE, 3, ((group, who),))
                self.gives(HOUSE, STATE, ("join", group, who), joined)
                self.gives(HOUSE, joined, ("leave", group, who), STATE)
                self.does_nothing(HOUSE, joined, ("join", group, who))
                self.does_nothing(HOUSE, STATE, ("leave", group, who))

    def test_leave_takes_out_one_member(self):
        state = with_part(STATE, 3, ((0, G1), (0, P0), (1, P0), (2, G1), (2, P1)))
        self.gives(HOUSE, state, ("leave", 0, P0), with_part(STATE, 3, ((0, G1), (1, P0), (2, G1), (2, P1))))
        self.gives(HOUSE, state, ("leave", 0, G1), with_part(STATE, 3, ((0, P0), (1, P0), (2, G1), (2, P1))))
        for deed in (("leave", 0, P1), ("leave", 1, G0), ("leave", 2, P0), ("leave", 1, G1)):
            self.does_nothing(HOUSE, state, deed)

    def test_members_stay_ascending(self):
        state = with_part(STATE, 3, ((0, P1), (1, P0)))
        self.gives(HOUSE, state, ("join", 0, P0), with_part(STATE, 3, ((0, P0), (0, P1), (1, P0))))
        self.gives(HOUSE, state, ("join", 1, G0), with_part(STATE, 3, ((0, P1), (1, G0), (1, P0))))
        self.gives(HOUSE, state, ("join", 0, G2), with_part(STATE, 3, ((0, G2), (0, P1), (1, P0))))

    def test_groups_join_groups(self):
        for group, other in ((0, 1), (1, 0), (0, 2), (2, 0), (1, 2), (2, 1)):
            joined = with_part(STATE, 3, ((group, ("g", other)),))
            self.gives(HOUSE, STATE, ("join", group, ("g", other)), joined)
            self.gives(HOUSE, joined, ("leave", group, ("g", other)), STATE)
            self.does_nothing(HOUSE, joined, ("join", other, ("g", group)))

    def test_no_group_joins_itself(self):
        for group in (0, 1, 2):
            self.does_nothing(HOUSE, STATE, ("join", group, ("g", group)))

    def test_no_join_closes_a_ring_through_others(self):
        for first, second, third in ((0, 1, 2), (0, 2, 1), (1, 0, 2), (1, 2, 0), (2, 0, 1), (2, 1, 0)):
            members = tuple(sorted([(second, ("g", first)), (third, ("g", second))]))
            state = with_part(STATE, 3, members)
            self.does_nothing(HOUSE, state, ("join", first, ("g", third)))
            self.does_nothing(HOUSE, state, ("join", first, ("g", second)))
            wanted = with_part(STATE, 3, tuple(sorted(members + ((third, ("g", first)),))))
            self.gives(HOUSE, state, ("join", third, ("g", first)), wanted)

    def test_persons_close_no_ring(self):
        state = with_part(STATE, 3, ((0, G1), (0, P0), (1, G2)))
        self.gives(HOUSE, state, ("join", 2, P0), with_part(STATE, 3, ((0, G1), (0, P0), (1, G2), (2, P0))))

    def test_a_join_changes_no_login(self):
        state = with_part(STATE, 4, ((1,), (0, 2)))
        wanted = with_part(state, 3, ((0, P0),))
        self.gives(HOUSE, state, ("join", 0, P0), wanted)
        self.gives(HOUSE, wanted, ("leave", 0, P0), state)


class Moves(Case):
    def test_a_folder_is_laid_into_another_one(self):
        self.gives(HOUSE, STATE, ("move", 1, 2), with_part(STATE, 0, (2, 0)))
        self.gives(HOUSE, STATE, ("move", 2, 1), with_part(STATE, 0, (0, 1)))
        self.gives(HOUSE, with_part(STATE, 0, (2, 0)), ("move", 1, 0), STATE)

    def test_all_below_it_goes_with_it(self):
        row = state_of(ROW)
        self.gives(ROW, row, ("move", 3, 0), with_part(row, 0, (0, 1, 0, 3, 4)))
        self.gives(ROW, row, ("move", 5, 2), with_part(row, 0, (0, 1, 2, 3, 2)))
        self.gives(ROW, row, ("move", 4, 1), with_part(row, 0, (0, 1, 2, 1, 4)))

    def test_not_folder_0(self):
        state = with_part(STATE, 2, ((0, G0, "bar"), (1, G0, "bar")))
        for parent in (0, 1, 2):
            self.does_nothing(HOUSE, state, ("move", 0, parent))

    def test_not_to_itself(self):
        state = with_part(STATE, 2, ((0, G0, "bar"), (1, G0, "bar"), (2, P0, "allow")))
        for folder in (1, 2):
            self.does_nothing(HOUSE, state, ("move", folder, folder))

    def test_not_into_a_folder_below_it(self):
        row = with_part(state_of(ROW), 2, tuple((folder, P0, "allow") for folder in range(6)))
        for folder in range(6):
            for parent in range(folder, 6):
                self.does_nothing(ROW, row, ("move", folder, parent))

    def test_keeps_its_entries(self):
        state = with_part(STATE, 2, ((0, G0, "bar"), (1, G0, "bar"), (1, P1, "allow"), (2, G0, "allow")))
        rules = [rule for rule in RULES if rule[1] == "keeps"]
        self.assertEqual(len(rules), 8)
        self.gives(HOUSE, state, ("move", 1, 2), with_part(state, 0, (2, 0)), rules)
        self.does_nothing(HOUSE, state, ("move", 1, 0), rules)

    def test_drops_its_entries(self):
        state = with_part(STATE, 2, ((0, G0, "bar"), (1, G0, "bar"), (1, P1, "allow"), (2, G0, "allow")))
        rules = [rule for rule in RULES if rule[1] == "drops"]
        self.assertEqual(len(rules), 8)
        dropped = with_part(state, 2, ((0, G0, "bar"), (2, G0, "allow")))
        self.gives(HOUSE, state, ("move", 1, 2), with_part(dropped, 0, (2, 0)), rules)

    def test_drops_its_entries_also_where_it_lies_already(self):
        state = with_part(STATE, 2, ((0, G0, "bar"), (1, G0, "bar"), (2, G0, "allow")))
        rules = [rule for rule in RULES if rule[1] == "drops"]
        self.gives(HOUSE, state, ("move", 1, 0), with_part(state, 2, ((0, G0, "bar"), (2, G0, "allow"))), rules)
        self.gives(HOUSE, state, ("move", 2, 0), with_part(state, 2, ((0, G0, "bar"), (1, G0, "bar"))), rules)

    def test_drops_no_entries_of_folders_below(self):
        row = with_part(state_of(ROW), 2, tuple((folder, P0, "allow") for folder in range(6)))
        kept = tuple((folder, P0, "allow") for folder in (0, 1, 2, 4, 5))
        wanted = with_part(with_part(row, 0, (0, 1, 1, 3, 4)), 2, kept)
        self.gives(ROW, row, ("move", 3, 1), wanted, [DROPS])

    def test_a_shut_folder_is_moved_all_the_same(self):
        for shut in ((True, False, False), (False, True, False), (True, True, True)):
            state = with_part(STATE, 1, shut)
            self.gives(HOUSE, state, ("move", 1, 2), with_part(state, 0, (2, 0)))
            self.does_nothing(HOUSE, with_part(state, 0, (2, 0)), ("move", 2, 1))

    def test_every_move_in_every_tree(self):
        house = (1, (0,) * 4, (False,) * 5, (), ())
        entries = tuple((folder, P0, "bar") for folder in range(5))
        for parents in all_trees(5):
            state = (parents, (False,) * 5, entries, (), ((),))
            for folder in range(5):
                for parent in range(5):
                    deed = ("move", folder, parent)
                    self.assertEqual(after_deed(house, KEEPS, state, deed), model_after(KEEPS, state, [deed]))
                    self.assertEqual(after_deed(house, DROPS, state, deed), model_after(DROPS, state, [deed]))


class Shutting(Case):
    def test_shut_and_open(self):
        for folder in (0, 1, 2):
            shut = with_part(STATE, 1, tuple(at == folder for at in (0, 1, 2)))
            self.gives(HOUSE, STATE, ("shut", folder), shut)
            self.gives(HOUSE, shut, ("open", folder), STATE)
            self.does_nothing(HOUSE, shut, ("shut", folder))
            self.does_nothing(HOUSE, STATE, ("open", folder))

    def test_flags_are_true_and_false(self):
        for word, flag in (("shut", True), ("open", False)):
            for folder in (0, 1, 2):
                self.assertIs(after_deed(HOUSE, RULE, STATE, (word, folder))[1][folder], flag)


class Logins(Case):
    def test_login_by_deep(self):
        state = with_part(STATE, 3, ((0, P0), (1, G0), (1, P1), (2, G1)))
        for rule in RULES:
            groups = (0, 1, 2) if rule[3] else (0,)
            self.gives(HOUSE, state, ("login", 0), with_part(state, 4, (groups, ())), [rule])
            groups = (1, 2) if rule[3] else (1,)
            self.gives(HOUSE, state, ("login", 1), with_part(state, 4, ((), groups)), [rule])

    def test_login_forgets_what_was(self):
        state = with_part(with_part(STATE, 4, ((0, 1, 2), (0, 1))), 3, ((2, P1),))
        self.gives(HOUSE, state, ("login", 0), with_part(state, 4, ((), (0, 1))))
        self.gives(HOUSE, state, ("login", 1), with_part(state, 4, ((0, 1, 2), (2,))))

    def test_groups_of_a_login_ascend(self):
        state = with_part(STATE, 3, ((0, G1), (1, G2), (2, P0)))
        for rule in RULES:
            groups = (0, 1, 2) if rule[3] else (2,)
            self.gives(HOUSE, state, ("login", 0), with_part(state, 4, (groups, ())), [rule])


class AfterDeed(Case):
    def test_every_deed_in_many_states(self):
        chance = chance_of(91)
        for _ in range(120):
            people, folders = chance.randint(1, 4), chance.randint(1, 6)
            house = some_house(chance, people, folders)
            state = some_state(chance, people, folders, chance.choice((0, 5, 11, 12, 12)))
            deeds = all_deeds(people, folders)
            for deed in chance.sample(deeds, min(40, len(deeds))):
                rule = chance.choice(RULES)
                self.gives(house, state, deed, model_after(rule, state, [deed]), [rule])

    def test_every_deed_of_every_size_is_one(self):
        for people in range(1, 5):
            for folders in range(1, 7):
                house = (people, (0,) * (folders - 1), (False,) * folders, (), ())
                state = state_of(house)
                deeds = all_deeds(people, folders)
                for deed in deeds:
                    after_deed(house, RULE, state, deed)
                for deed in set(all_deeds(4, 6) + all_deeds(people + 1, folders + 1)) - set(deeds):
                    with self.assertRaises(BadDeed, msg=(house, deed)):
                        after_deed(house, RULE, state, deed)

    def test_by_names(self):
        wanted = with_part(STATE, 1, (True, False, False))
        self.assertEqual(after_deed(house=HOUSE, rule=RULE, state=STATE, deed=("shut", 0)), wanted)

    def test_kinds_of_values(self):
        state = with_part(STATE, 2, ((0, G0, "bar"),))
        for deed in (("allow", 0, G0), ("clear", 0, G0), ("join", 0, P0), ("leave", 0, P0), ("move", 1, 2), ("login", 0)):
            after = after_deed(HOUSE, DROPS, state, deed)
            self.assertEqual([type(part) for part in (after,) + after], [tuple] * 6)
            self.assertEqual([type(groups) for groups in after[4]], [tuple] * 2)

    def test_wrong(self):
        for house in wrong_houses():
            with self.assertRaises(BadHouse, msg=house):
                after_deed(house, RULE, STATE, ("shut", 0))
        for rule in wrong_rules():
            with self.assertRaises(BadRule, msg=rule):
                after_deed(HOUSE, rule, STATE, ("shut", 0))
        for state in wrong_states() + [HOUSE]:
            with self.assertRaises(BadState, msg=state):
                after_deed(HOUSE, RULE, state, ("shut", 0))
        for deed in wrong_deeds():
            with self.assertRaises(BadDeed, msg=deed):
                after_deed(HOUSE, RULE, STATE, deed)

    def test_the_first_wrong_argument_tells(self):
        good = (HOUSE, RULE, STATE, ("shut", 0))
        errors = (BadHouse, BadRule, BadState, BadDeed)
        for mask in range(1, 16):
            wrong = [at for at in range(4) if mask >> at & 1]
            for thing in (None, True, [], "x"):
                row = [thing if at in wrong else good[at] for at in range(4)]
                with self.assertRaises(errors[wrong[0]], msg=row):
                    after_deed(*row)


class AfterDeeds(Case):
    def test_none(self):
        for rule in RULES:
            self.assertEqual(after_deeds(SMALL, rule, []), first_state(SMALL, rule))

    def test_the_example(self):
        deeds = [("join", 0, P0), ("shut", 1)]
        wanted = ((0,), (False, True), ((0, G0, "allow"),), ((0, P0), (0, P1)), ((), (0,)))
        self.assertEqual(after_deeds(SMALL, RULE, deeds), wanted)
        self.assertEqual(after_deeds(house=SMALL, rule=RULE, deeds=deeds), wanted)

    def test_the_order_tells(self):
        deeds = [("join", 1, G0), ("login", 1), ("leave", 0, P1), ("join", 0, G1), ("move", 1, 0)]
        wanted = ((0,), (False, False), ((0, G0, "allow"),), ((1, G0),), ((), (0, 1)))
        self.assertEqual(after_deeds(SMALL, RULE, deeds), wanted)
        wanted = ((0,), (False, False), ((0, G0, "allow"),), ((0, G1),), ((), ()))
        self.assertEqual(after_deeds(SMALL, RULE, deeds[::-1]), wanted)

    def test_against_the_model(self):
        chance = chance_of(92)
        for _ in range(150):
            house, rule = some_house(chance), chance.choice(RULES)
            every = all_deeds(house[0], len(house[2]))
            deeds = [chance.choice(every) for _ in range(chance.choice((1, 2, 10, 60)))]
            kept = deepcopy((house, deeds))
            after = after_deeds(house, rule, deeds)
            self.assertEqual(after, model_after(rule, model_first(house, rule), deeds))
            self.assertEqual((house, deeds), kept)
            deeds.clear()
            self.assertEqual(after_deeds(house, rule, kept[1]), after)

    def test_one_at_a_time_leads_to_the_same(self):
        chance = chance_of(93)
        for _ in range(30):
            house, rule = some_house(chance), chance.choice(RULES)
            every = all_deeds(house[0], len(house[2]))
            deeds = [chance.choice(every) for _ in range(12)]
            state = first_state(house, rule)
            for deed in deeds:
                state = after_deed(house, rule, state, deed)
            self.assertEqual(after_deeds(house, rule, deeds), state)

    def place_of(self, deeds):
        with self.assertRaises(BadDeeds) as caught:
            after_deeds(HOUSE, RULE, deeds)
        self.assertIs(type(caught.exception.place), int)
        return caught.exception.place

    def test_sixty_deeds_and_sixty_one(self):
        deeds = [("shut", 0), ("open", 0)] * 30
        self.assertEqual(after_deeds(HOUSE, RULE, deeds), STATE)
        self.assertEqual(after_deeds(HOUSE, RULE, deeds[1:] + [("shut", 0)])[1], (True, False, False))
        self.assertEqual(self.place_of(deeds + [("shut", 0)]), 60)
        self.assertEqual(self.place_of(deeds + [None]), 60)
        self.assertEqual(self.place_of(deeds * 3), 60)

    def test_the_place_of_the_first_that_is_none(self):
        for deed in wrong_deeds():
            self.assertEqual(self.place_of([deed]), 0)
            self.assertEqual(self.place_of([("shut", 0), deed, None]), 1)
        for place in range(60):
            deeds = [("shut", 0)] * 60
            deeds[place] = ("shut", 3)
            self.assertEqual(self.place_of(deeds), place)
            self.assertEqual(self.place_of(deeds + [("shut", 0)]), place)
            self.assertEqual(self.place_of(deeds + [None] * 5), place)

    def test_no_list(self):
        for deeds in (None, True, 0, 60, "", "shut", (), (("shut", 0),), ("shut", 0), {}, {0: ("shut", 0)}, set(), iter([])):
            self.assertEqual(self.place_of(deeds), -1)
        self.assertEqual(self.place_of(((None,),) * 61), -1)

    def test_wrong(self):
        for house in wrong_houses():
            with self.assertRaises(BadHouse, msg=house):
                after_deeds(house, RULE, [])
        for rule in wrong_rules():
            with self.assertRaises(BadRule, msg=rule):
                after_deeds(HOUSE, rule, [])

    def test_the_first_wrong_argument_tells(self):
        for thing in (None, True, (), "x"):
            for house, rule, deeds, error in (
                    (thing, thing, thing, BadHouse), (thing, RULE, thing, BadHouse), (thing, thing, [], BadHouse),
                    (HOUSE, thing, thing, BadRule), (HOUSE, thing, [thing], BadRule), (HOUSE, RULE, thing, BadDeeds)):
                with self.assertRaises(error):
                    after_deeds(house, rule, deeds)


if __name__ == "__main__":
    unittest.main()
