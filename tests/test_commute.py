"""Point 10: deeds whose order never matters, and states in which it does."""

import unittest
from itertools import combinations_with_replacement, product

from makers import RULE, RULES, all_deeds, all_group_members, all_spots, all_trees, all_who, chance_of
from makers import some_house, some_state, with_part, wrong_deeds, wrong_houses, wrong_rules
from model import model_after, model_commutes
from sawwhen.deeds import after_deed, commute
from sawwhen.errors import BadDeed, BadHouse, BadRule
from sawwhen.houses import all_sights, is_house

SIZES = [(people, folders) for people in range(1, 5) for folders in range(1, 7)]
KEEPS, DROPS = ("bar", "keeps", "now", True), ("near", "drops", "login", False)
PUTS = ("allow", "bar")
ON_ENTRIES = ("allow", "bar", "clear")
ON_MEMBERS = ("join", "leave")


def house_of(people, folders):
    return (people, (0,) * (folders - 1), (False,) * folders, (), ())


def may_move(deed):
    """Whether a move does something in some state."""
    return deed[1] != 0 and deed[1] != deed[2]


def may_join(deed):
    """Whether a join or leave does something in some state."""
    return deed[2] != ("g", deed[1])


def entries_part(spots, deed, other):
    """Whether two deeds on entries tell their order: on one spot, or by the limit."""
    if deed[0] == other[0] == "clear":
        return False
    if deed[1:] == other[1:]:
        return deed[0] != other[0]
    return spots > 12


def move_parts_entry(rule, spots, move, deed):
    if rule[1] == "keeps" or deed[0] == "clear" or not may_move(move):
        return False
    return move[1] == deed[1] or spots > 12


def moves_part(deed, other):
    return may_move(deed) and may_move(other) and deed[2] != other[2]


def members_part(deed, other):
    if not may_join(deed) or not may_join(other) or deed[0] == other[0] == "leave":
        return False
    if deed[1:] == other[1:]:
        return deed[0] != other[0]
    if "p" in (deed[2][0], other[2][0]):
        return False
    return deed[2] == ("g", other[1]) or other[2] == ("g", deed[1])


def login_parts_member(rule, login, deed):
    if deed[2][0] == "p":
        return deed[2][1] == login[1]
    return rule[3] and may_join(deed)


def should_part(rule, people, folders, deed, other):
    """Whether there is a state in which the order of the two deeds matters."""
    spots = folders * (people + 3)
    for one, two in ((deed, other), (other, deed)):
        if one[0] == "move" and two[0] in ON_ENTRIES:
            return move_parts_entry(rule, spots, one, two)
        if one[0] == "login" and two[0] in ON_MEMBERS:
            return login_parts_member(rule, one, two)
    words = {deed[0], other[0]}
    if words <= set(ON_ENTRIES):
        return entries_part(spots, deed, other)
    if words <= set(ON_MEMBERS):
        return members_part(deed, other)
    if words == {"move"}:
        return moves_part(deed, other)
    return words == {"shut", "open"} and deed[1] == other[1]


class Case(unittest.TestCase):
    def parts(self, house, rule, deed, other):
        """Check what commute returns, but for whether it should be None; return whether it is a state."""
        state = commute(house, rule, deed, other)
        if state is None:
            return False
        told = (house, rule, deed, other, state)
        self.assertIs(is_house((house[0],) + state[:4]), True, told)
        self.assertEqual((len(state), len(state[0])), (5, len(house[1])), told)
        all_sights(house, rule, state)
        self.assertFalse(model_commutes(rule, state, deed, other), told)
        ahead = after_deed(house, rule, after_deed(house, rule, state, deed), other)
        behind = after_deed(house, rule, after_deed(house, rule, state, other), deed)
        self.assertNotEqual(ahead, behind, told)
        return True

    def told(self, wanted, house, rule, deed, other):
        self.assertEqual(self.parts(house, rule, deed, other), wanted, (house, rule, deed, other))
        self.assertEqual(self.parts(house, rule, other, deed), wanted, (house, rule, other, deed))

    def never(self, states, house, rule, deed, other):
        """If commute returns None, the order matters in none of the states; return whether it does."""
        if self.parts(house, rule, deed, other):
            return False
        for state in states:
            self.assertTrue(model_commutes(rule, state, deed, other), (house, rule, deed, other, state))
        return True


class EveryTwoKinds(Case):
    def test_all_pairs_in_small_houses(self):
        for people, folders in ((1, 1), (2, 2), (1, 3)):
            house, deeds = house_of(people, folders), all_deeds(people, folders)
            for rule in (KEEPS, DROPS):
                for deed, other in combinations_with_replacement(deeds, 2):
                    wanted = should_part(rule, people, folders, deed, other)
                    self.assertEqual(self.parts(house, rule, deed, other), wanted, (house, rule, deed, other))

    def test_some_pairs_in_houses_of_all_sizes(self):
        chance = chance_of(101)
        for people, folders in SIZES:
            house = some_house(chance, people, folders)
            words = {}
            for deed in all_deeds(people, folders):
                words.setdefault(deed[0], []).append(deed)
            for first, second in combinations_with_replacement(list(words), 2):
                for _ in range(3):
                    rule = chance.choice(RULES)
                    deed, other = chance.choice(words[first]), chance.choice(words[second])
                    self.told(should_part(rule, people, folders, deed, other), house, rule, deed, other)

    def test_by_all_rules(self):
        chance = chance_of(102)
        deeds = all_deeds(2, 3)
        for rule in RULES:
            for _ in range(250):
                deed, other = chance.choice(deeds), chance.choice(deeds)
                self.told(should_part(rule, 2, 3, deed, other), house_of(2, 3), rule, deed, other)

    def test_none_only_where_both_orders_lead_to_one_state(self):
        chance = chance_of(103)
        for people, folders in ((2, 3), (4, 2), (3, 5), (4, 6)):
            deeds = all_deeds(people, folders)
            states = [some_state(chance, people, folders, many) for many in (0, 0, 1, 3, 5, 8, 10, 11, 11, 11, 12, 12, 12, 12)]
            for _ in range(400):
                rule = chance.choice(RULES)
                deed, other = chance.choice(deeds), chance.choice(deeds)
                self.never(states, house_of(people, folders), rule, deed, other)

    def test_a_deed_and_itself(self):
        for rule in (KEEPS, DROPS):
            for deed in all_deeds(4, 6):
                self.assertIsNone(commute(house_of(4, 6), rule, deed, deed), deed)

    def test_the_house_tells_by_its_size_alone(self):
        chance = chance_of(104)
        deeds = all_deeds(3, 4)
        for _ in range(300):
            rule, deed, other = chance.choice(RULES), chance.choice(deeds), chance.choice(deeds)
            wanted = should_part(rule, 3, 4, deed, other)
            for house in (house_of(3, 4), some_house(chance, 3, 4, 12), some_house(chance, 3, 4)):
                self.assertEqual(self.parts(house, rule, deed, other), wanted)


class Entries(Case):
    def test_on_one_spot(self):
        for people, folders in SIZES:
            house = house_of(people, folders)
            for folder, who in all_spots(people, folders)[::4]:
                for rule in (KEEPS, DROPS):
                    for word, second in product(ON_ENTRIES, ON_ENTRIES):
                        self.told(word != second, house, rule, (word, folder, who), (second, folder, who))

    def test_by_the_limit(self):
        chance = chance_of(105)
        for people, folders in SIZES:
            house, spots = house_of(people, folders), all_spots(people, folders)
            for _ in range(6):
                spot, second = chance.sample(spots, 2)
                for word, other in product(ON_ENTRIES, ON_ENTRIES):
                    wanted = len(spots) > 12 and (word, other) != ("clear", "clear")
                    self.told(wanted, house, KEEPS, (word,) + spot, (other,) + second)

    def test_just_twelve_spots(self):
        for people, folders in ((3, 2), (1, 3)):
            house, spots = house_of(people, folders), all_spots(people, folders)
            self.assertEqual(len(spots), 12)
            full = house[1:3] + (tuple(sorted(spot + ("allow",) for spot in spots)), (), ((),) * people)
            for spot, second in zip(spots, spots[1:]):
                for word, other in product(ON_ENTRIES, ON_ENTRIES):
                    states = [with_part(full, 2, full[2][:at] + full[2][at + 1:]) for at in range(12)] + [full]
                    self.assertTrue(self.never(states, house, KEEPS, (word,) + spot, (other,) + second))

    def test_moves_that_drop(self):
        for people, folders in SIZES:
            house, spots = house_of(people, folders), all_spots(people, folders)
            for parent in range(folders):
                move = ("move", folders - 1, parent)
                for folder, who in (spots[0], spots[-1], spots[len(spots) // 2]):
                    moved = folders > 1 and parent != folders - 1
                    wanted = moved and (folder == folders - 1 or len(spots) > 12)
                    for word in PUTS:
                        self.told(wanted, house, DROPS, move, (word, folder, who))
                        self.told(False, house, KEEPS, move, (word, folder, who))
                    self.told(False, house, DROPS, move, ("clear", folder, who))
                    self.told(False, house, KEEPS, move, ("clear", folder, who))

    def test_against_many_entries(self):
        chance = chance_of(106)
        deeds = [deed for deed in all_deeds(1, 4) if deed[0] in ON_ENTRIES or deed[0] == "move"]
        states = [with_part(some_state(chance, 1, 4, many), 3, ()) for many in (0, 1, 4, 11, 11, 12, 12, 12)]
        for rule in (KEEPS, DROPS):
            for deed, other in combinations_with_replacement(deeds[::2], 2):
                self.never(states, house_of(1, 4), rule, deed, other)


class Moves(Case):
    def test_against_every_tree(self):
        for folders in (1, 2, 3, 4, 5):
            entries = tuple((folder, ("p", 0), "bar") for folder in range(folders))
            states = [(parents, (False,) * folders, entries, (), ((),)) for parents in all_trees(folders)]
            moves = [deed for deed in all_deeds(1, folders) if deed[0] == "move"]
            for rule in (KEEPS, DROPS):
                for deed, other in combinations_with_replacement(moves, 2):
                    never = self.never(states, house_of(1, folders), rule, deed, other)
                    self.assertEqual(never, not moves_part(deed, other), (deed, other))

    def test_all_moves_of_six_folders(self):
        moves = [deed for deed in all_deeds(4, 6) if deed[0] == "move"]
        for deed, other in product(moves, moves):
            for rule in (KEEPS, DROPS):
                wanted = moves_part(deed, other)
                self.assertEqual(self.parts(house_of(4, 6), rule, deed, other), wanted, (rule, deed, other))

    def test_moves_that_do_nothing(self):
        deeds = all_deeds(2, 3)
        for move in (("move", 0, 0), ("move", 0, 1), ("move", 0, 2), ("move", 1, 1), ("move", 2, 2)):
            for deed in deeds:
                self.told(False, house_of(2, 3), DROPS, move, deed)


class Members(Case):
    def test_against_every_membership_of_groups(self):
        deeds = [("login", 0)] + [deed for deed in all_deeds(2, 1) if deed[0] in ON_MEMBERS]
        states = []
        for members in all_group_members():
            for mask in range(8):
                mine = [(group, ("p", 0)) for group in range(3) if mask >> group & 1]
                states.append(((), (False,), (), tuple(sorted(list(members) + mine)), ((0, 2), ())))
        for rule in (KEEPS, DROPS):
            for deed, other in combinations_with_replacement(deeds, 2):
                never = self.never(states, house_of(2, 1), rule, deed, other)
                self.assertEqual(never, not should_part(rule, 2, 1, deed, other), (rule, deed, other))

    def test_joins_that_close_a_ring_together(self):
        house = house_of(1, 1)
        self.told(True, house, RULE, ("join", 0, ("g", 1)), ("join", 1, ("g", 0)))
        self.told(True, house, RULE, ("join", 0, ("g", 1)), ("join", 1, ("g", 2)))
        self.told(False, house, RULE, ("join", 0, ("g", 1)), ("join", 0, ("g", 2)))
        self.told(False, house, RULE, ("join", 1, ("g", 0)), ("join", 2, ("g", 0)))

    def test_a_leave_that_breaks_what_would_be_a_ring(self):
        house = house_of(1, 1)
        self.told(True, house, RULE, ("join", 0, ("g", 1)), ("leave", 1, ("g", 0)))
        self.told(True, house, RULE, ("join", 0, ("g", 1)), ("leave", 1, ("g", 2)))
        self.told(True, house, RULE, ("join", 0, ("g", 1)), ("leave", 2, ("g", 0)))
        self.told(False, house, RULE, ("join", 0, ("g", 1)), ("leave", 0, ("g", 2)))
        self.told(False, house, RULE, ("join", 0, ("g", 1)), ("leave", 2, ("g", 1)))

    def test_a_group_and_itself(self):
        for group in (0, 1, 2):
            for word in ON_MEMBERS:
                for deed in all_deeds(2, 2):
                    for rule in (KEEPS, DROPS):
                        self.told(False, house_of(2, 2), rule, (word, group, ("g", group)), deed)

    def test_persons(self):
        house = house_of(4, 1)
        for word, other in product(ON_MEMBERS, ON_MEMBERS):
            for person, second in product(range(4), range(4)):
                for group, third in product(range(3), range(3)):
                    wanted = word != other and (group, person) == (third, second)
                    self.told(wanted, house, RULE, (word, group, ("p", person)), (other, third, ("p", second)))

    def test_logins_deep_and_flat(self):
        for people in (1, 4):
            house = house_of(people, 1)
            for rule in RULES:
                for person, word, group, who in product(range(people), ON_MEMBERS, range(3), all_who(people)):
                    wanted = who == ("p", person) or (rule[3] and who[0] == "g" and who[1] != group)
                    self.told(wanted, house, rule, ("login", person), (word, group, who))

    def test_two_logins(self):
        for person, other in product(range(4), range(4)):
            self.told(False, house_of(4, 2), RULE, ("login", person), ("login", other))


class Shutting(Case):
    def test_shut_and_open(self):
        for word, second in product(("shut", "open"), ("shut", "open")):
            for folder, other in product(range(6), range(6)):
                wanted = word != second and folder == other
                self.told(wanted, house_of(1, 6), RULE, (word, folder), (second, other))

    def test_shut_and_other_kinds(self):
        for deed in all_deeds(4, 3):
            if deed[0] not in ("shut", "open"):
                for folder in range(3):
                    self.told(False, house_of(4, 3), DROPS, ("shut", folder), deed)
                    self.told(False, house_of(4, 3), DROPS, ("open", folder), deed)


class Calls(Case):
    def test_by_names(self):
        state = commute(house=house_of(1, 1), rule=RULE, deed=("shut", 0), other=("open", 0))
        ends = [model_after(RULE, state, [("shut", 0), ("open", 0)]), model_after(RULE, state, [("open", 0), ("shut", 0)])]
        self.assertEqual([end[1] for end in ends], [(False,), (True,)])

    def test_equal_calls(self):
        chance = chance_of(107)
        deeds = all_deeds(2, 3)
        for _ in range(100):
            row = (house_of(2, 3), chance.choice(RULES), chance.choice(deeds), chance.choice(deeds))
            self.assertEqual(commute(*row), commute(*row))

    def test_wrong(self):
        house = house_of(2, 3)
        for thing in wrong_houses():
            with self.assertRaises(BadHouse, msg=thing):
                commute(thing, RULE, ("shut", 0), ("shut", 0))
        for thing in wrong_rules():
            with self.assertRaises(BadRule, msg=thing):
                commute(house, thing, ("shut", 0), ("shut", 0))
        for thing in wrong_deeds():
            with self.assertRaises(BadDeed, msg=thing):
                commute(house, RULE, thing, ("shut", 0))
            with self.assertRaises(BadDeed, msg=thing):
                commute(house, RULE, ("shut", 0), thing)

    def test_the_first_wrong_argument_tells(self):
        good = (house_of(2, 3), RULE, ("shut", 0), ("open", 0))
        errors = (BadHouse, BadRule, BadDeed, BadDeed)
        for mask in range(1, 16):
            wrong = [at for at in range(4) if mask >> at & 1]
            for thing in (None, True, [], "x"):
                row = [thing if at in wrong else good[at] for at in range(4)]
                with self.assertRaises(errors[wrong[0]], msg=row):
                    commute(*row)


if __name__ == "__main__":
    unittest.main()
