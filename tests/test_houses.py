"""Points 4 and 5: what is a house, and what is a rule."""

import unittest
from copy import deepcopy
from itertools import permutations

from makers import RULE, RULES, SMALL, all_group_members, all_spots, all_trees, all_who, chance_of, some_house
from makers import with_part, wrong_houses, wrong_rules
from sawwhen.houses import is_house, is_rule

LONE = (1, (), (False,), (), ())
ROW = (4, (0, 1, 2, 3, 4), (False,) * 6, (), ())


class IsHouse(unittest.TestCase):
    def holds(self, house):
        self.assertIs(is_house(house), True, house)

    def fails(self, thing):
        self.assertIs(is_house(thing), False, thing)

    def test_ordinary(self):
        self.holds(SMALL)
        self.holds(LONE)
        self.holds(ROW)
        self.assertIs(is_house(thing=SMALL), True)

    def test_wrong(self):
        for thing in wrong_houses():
            self.fails(thing)

    def test_one_to_four_people(self):
        for people in range(-1, 7):
            self.assertIs(is_house(with_part(LONE, 0, people)), 1 <= people <= 4, people)

    def test_one_to_six_folders(self):
        for folders in range(1, 9):
            house = (1, (0,) * (folders - 1), (False,) * folders, (), ())
            self.assertIs(is_house(house), folders <= 6, folders)

    def test_every_tree_and_no_other(self):
        for folders in range(1, 6):
            trees = set(all_trees(folders))
            self.assertEqual(len(trees), folders ** max(0, folders - 2))
            for parents in all_parents(folders):
                house = (1, parents, (False,) * folders, (), ())
                self.assertIs(is_house(house), parents in trees, parents)

    def test_folders_in_a_row_in_any_order(self):
        for numbers in permutations(range(1, 6)):
            parents = {number: above for number, above in zip(numbers, (0,) + numbers)}
            self.holds(with_part(ROW, 1, tuple(parents[at] for at in range(1, 6))))

    def test_rings_of_folders(self):
        for parents in ((2, 1, 0, 0, 0), (0, 3, 2, 0, 0), (2, 3, 4, 5, 1), (0, 1, 4, 5, 3), (1, 0, 0, 0, 0), (0, 0, 0, 0, 5)):
            self.fails(with_part(ROW, 1, parents))

    def test_a_parent_must_be_a_folder(self):
        for parent in range(-2, 9):
            house = with_part(ROW, 1, (0, parent, 0, 0, 0))
            self.assertIs(is_house(house), parent in (0, 1, 3, 4, 5), parent)

    def test_any_folder_may_be_shut(self):
        for folder in range(6):
            self.holds(with_part(ROW, 2, tuple(at == folder for at in range(6))))
        self.holds(with_part(ROW, 2, (True,) * 6))
        self.holds(with_part(LONE, 2, (True,)))

    def test_twelve_entries_and_a_thirteenth(self):
        spots = all_spots(4, 6)
        for many in range(15):
            entries = tuple((folder, who, "bar") for folder, who in spots[:many])
            self.assertIs(is_house(with_part(ROW, 3, tuple(sorted(entries)))), many <= 12, many)

    def test_entries_ascend(self):
        entries = ((0, ("g", 2), "bar"), (0, ("p", 1), "allow"), (1, ("g", 0), "allow"))
        for order in permutations(entries):
            self.assertIs(is_house(with_part(ROW, 3, order)), order == entries, order)

    def test_one_entry_for_a_folder_and_who(self):
        for spot in all_spots(4, 6):
            self.holds(with_part(ROW, 3, (spot + ("allow",),)))
            self.holds(with_part(ROW, 3, (spot + ("bar",),)))
            self.fails(with_part(ROW, 3, (spot + ("allow",), spot + ("bar",))))
            self.fails(with_part(ROW, 3, (spot + ("bar",), spot + ("bar",))))

    def test_persons_of_the_house_alone(self):
        for people in range(1, 5):
            house = with_part(ROW, 0, people)
            for person in range(6):
                entries = ((0, ("p", person), "bar"),)
                self.assertIs(is_house(with_part(house, 3, entries)), person < people)
                self.assertIs(is_house(with_part(house, 4, ((2, ("p", person)),))), person < people)

    def test_three_groups_always(self):
        for group in range(-1, 5):
            self.assertIs(is_house(with_part(LONE, 3, ((0, ("g", group), "bar"),))), 0 <= group < 3)
            self.assertIs(is_house(with_part(LONE, 4, ((group, ("p", 0)),))), 0 <= group < 3)
        self.holds(with_part(LONE, 4, ((0, ("g", 1)), (0, ("g", 2)), (2, ("g", 1)))))

    def test_every_ringless_membership_of_groups_and_no_other(self):
        good = set(all_group_members())
        self.assertEqual(len(good), 25)
        pairs = [(group, ("g", other)) for group in range(3) for other in range(3)]
        for mask in range(2 ** len(pairs)):
            members = tuple(pair for at, pair in enumerate(pairs) if mask >> at & 1)
            self.assertIs(is_house(with_part(LONE, 4, members)), members in good, members)

    def test_as_many_members_as_there_can_be(self):
        members = [(group, who) for group in range(3) for who in all_who(4) if who[0] == "p" or who[1] < group]
        self.holds(with_part(ROW, 4, tuple(members)))
        self.fails(with_part(ROW, 4, tuple(members[::-1])))

    def test_many_houses(self):
        chance = chance_of(41)
        for _ in range(300):
            house = some_house(chance)
            kept = deepcopy(house)
            self.holds(house)
            self.assertEqual(house, kept)
            self.fails(list(house))
            self.fails(house[:4])


class IsRule(unittest.TestCase):
    def test_all_sixteen(self):
        self.assertEqual(len(RULES), 16)
        for rule in RULES:
            self.assertIs(is_rule(rule), True, rule)
        self.assertIs(is_rule(thing=RULE), True)

    def test_wrong(self):
        for thing in wrong_rules():
            self.assertIs(is_rule(thing), False, thing)

    def test_words_in_other_places(self):
        words = ("bar", "near", "keeps", "drops", "now", "login", True, False)
        for first in words:
            for moving in words:
                for known in words:
                    for deep in words:
                        rule = (first, moving, known, deep)
                        self.assertIs(is_rule(rule), rule in RULES, rule)


def all_parents(folders):
    found = [()]
    for _ in range(folders - 1):
        found = [parents + (at,) for parents in found for at in range(folders)]
    return found


if __name__ == "__main__":
    unittest.main()
