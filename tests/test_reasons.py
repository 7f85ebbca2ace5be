"""Points 15 and 16: why a person sees a folder, or does not."""

import unittest
from copy import deepcopy
from itertools import chain, combinations, permutations, product

from checks import Checks
from makers import RULES, WRONG, all_who, chance_of, some_house, some_state, with_part, wrong_houses, wrong_numbers
from makers import wrong_rows, wrong_rules, wrong_states
from model import groups_at
from sawwhen.errors import BadFolder, BadHouse, BadPerson, BadRule, BadState
from sawwhen.houses import sees
from sawwhen.reasons import reason_for, reason_holds

P0, P1, G0, G1, G2 = ("p", 0), ("p", 1), ("g", 0), ("g", 1), ("g", 2)
NAMES = ("house", "rule", "state", "person", "folder", "reason")
ERRORS = (BadHouse, BadRule, BadState, BadPerson, BadFolder)

HOUSE = (2, (0, 0), (False, False, False), (), ())
STATE = ((0, 1), (False, False, False), (), (), ((), ()))

# All tuples of up to four groups, also such as no chain can be.
CHAINS = list(chain.from_iterable(product(range(3), repeat=many) for many in range(4))) + [(0, 1, 2, 0)]


def rule_of(first, known="now", deep=True):
    return (first, "keeps", known, deep)


def state_of(entries, members=(), logins=((), ()), shut=(False,) * 3):
    """A state with folder 2 in folder 1 in folder 0."""
    return ((0, 1), shut, tuple(sorted(entries)), tuple(sorted(members)), logins)


def allow(folder, who):
    return (folder, who, "allow")


def bar(folder, who):
    return (folder, who, "bar")


class View:
    """A second telling of the reasons for one person and folder, by the words of the document."""

    def __init__(self, rule, state, person, folder):
        self.first, _, self.known, self.deep = rule
        self.parents, self.shut, self.entries, self.members, self.logins = state
        self.person = person
        self.way = self.way_from(folder)

    def way_from(self, folder):
        if folder == 0 or self.shut[folder]:
            return (folder,)
        return (folder,) + self.way_from(self.parents[folder - 1])

    def groups(self):
        if self.known == "login":
            return tuple(self.logins[self.person])
        return tuple(sorted(groups_at(self.members, ("p", self.person), self.deep)))

    def is_chain(self, who, groups):
        if who[0] == "p":
            return who[1] == self.person and groups == ()
        if not groups or groups[-1] != who[1]:
            return False
        if self.known == "login":
            return len(groups) == 1 and groups[0] in self.logins[self.person]
        row = (("p", self.person),) + tuple(("g", group) for group in groups)
        if not self.deep and len(groups) > 1:
            return False
        return all((group, below) in self.members for group, below in zip(groups, row))

    def counting(self, folder, kind=None):
        """The entries that count at the folder, of any kind or of this one."""
        mine = [("p", self.person)] + [("g", group) for group in self.groups()]
        return [entry for entry in self.entries if entry[0] == folder and entry[1] in mine and kind in (None, entry[2])]

    def holds(self, reason):
        word = reason[0]
        if word == "nothing":
            return reason == ("nothing", self.way, self.groups()) and not any(self.counting(at) for at in self.way)
        _, folder, who, groups = reason
        kind = "allow" if word == "sees" else "bar"
        if folder not in self.way or (folder, who, kind) not in self.entries or not self.is_chain(who, groups):
            return False
        nearer = self.way[:self.way.index(folder)]
        if self.first == "near":
            if any(self.counting(at) for at in nearer):
                return False
            return word == "barred" or not self.counting(folder, "bar")
        return word == "barred" or not any(self.counting(at, "bar") for at in self.way)


def all_candidates(people, folders):
    """Reasons of every form, of which few hold."""
    spots = product(("sees", "barred"), range(folders), all_who(people), CHAINS)
    ways = [way for many in range(1, folders + 1) for way in permutations(range(folders), many)]
    groups = [some for many in range(4) for some in combinations(range(3), many)]
    return [tuple(spot) for spot in spots] + [("nothing", way, some) for way in ways for some in groups]


class Reasons(Checks, unittest.TestCase):
    def told(self, rule, state, person, folder, reasons):
        """Just these reasons hold, of all of the form, and one of them is given."""
        house = (len(state[4]), (0,) * len(state[0]), (False,) * len(state[1]), (), ())
        values = (house, rule, state, person, folder)
        kept = deepcopy(values)
        self.assertIn(reason_for(*values), reasons)
        self.assertEqual(reason_for(**dict(zip(NAMES, values))), reason_for(*values))
        for reason in all_candidates(len(state[4]), len(state[1])):
            self.assertIs(reason_holds(*values, reason), reason in reasons, (values, reason))
        for reason in reasons:
            self.assertIs(reason_holds(**dict(zip(NAMES, values + (reason,)))), True, (values, reason))
        self.assertEqual(values, kept)

    def test_nothing_counts(self):
        for rule in RULES:
            self.told(rule, STATE, 0, 2, [("nothing", (2, 1, 0), ())])
            self.told(rule, STATE, 1, 1, [("nothing", (1, 0), ())])
            self.told(rule, STATE, 1, 0, [("nothing", (0,), ())])
            others = state_of([allow(0, P1), bar(1, G0)], shut=(False, True, False))
            self.told(rule, others, 0, 2, [("nothing", (2, 1), ())])

    def test_nothing_names_the_groups_that_count(self):
        state = state_of([], [(0, P0), (2, G0), (1, P1)], ((1, 2), ()))
        self.told(rule_of("bar"), state, 0, 1, [("nothing", (1, 0), (0, 2))])
        self.told(rule_of("near", deep=False), state, 0, 1, [("nothing", (1, 0), (0,))])
        for deep in (True, False):
            self.told(rule_of("bar", "login", deep), state, 0, 1, [("nothing", (1, 0), (1, 2))])
            self.told(rule_of("near", "login", deep), state, 1, 1, [("nothing", (1, 0), ())])

    def test_an_entry_of_the_person_has_an_empty_chain(self):
        for rule in RULES:
            self.told(rule, state_of([allow(1, P0)]), 0, 2, [("sees", 1, P0, ())])
            self.told(rule, state_of([bar(1, P0)]), 0, 2, [("barred", 1, P0, ())])

    def test_chains_of_one_two_and_three_groups(self):
        members = [(0, P0), (1, G0), (2, G1)]
        for first in ("bar", "near"):
            for who, groups in ((G0, (0,)), (G1, (0, 1)), (G2, (0, 1, 2))):
                self.told(rule_of(first), state_of([allow(0, who)], members), 0, 1, [("sees", 0, who, groups)])
                self.told(rule_of(first), state_of([bar(0, who)], members), 0, 1, [("barred", 0, who, groups)])

    def test_flat_chains_have_one_group(self):
        members = [(0, P0), (1, G0), (2, G1)]
        for first in ("bar", "near"):
            rule = rule_of(first, deep=False)
            self.told(rule, state_of([allow(0, G0)], members), 0, 1, [("sees", 0, G0, (0,))])
            self.told(rule, state_of([allow(0, G1)], members), 0, 1, [("nothing", (1, 0), (0,))])
            self.told(rule, state_of([bar(0, G2)], members), 0, 1, [("nothing", (1, 0), (0,))])

    def test_more_than_one_chain(self):
        members = [(0, P0), (1, P0), (1, G0), (2, G0), (2, G1), (2, P1)]
        state = state_of([allow(0, G2)], members)
        for first in ("bar", "near"):
            self.told(rule_of(first), state, 0, 0, [("sees", 0, G2, (0, 1, 2)), ("sees", 0, G2, (0, 2)),
                                                    ("sees", 0, G2, (1, 2))])
            self.told(rule_of(first), state, 1, 0, [("sees", 0, G2, (2,))])
            self.told(rule_of(first, deep=False), state, 0, 0, [("nothing", (0,), (0, 1))])

    def test_chains_by_login(self):
        state = state_of([allow(0, G1)], [(0, P0), (1, G0)], ((1, 2), (0,)))
        for first in ("bar", "near"):
            for deep in (True, False):
                rule = rule_of(first, "login", deep)
                self.told(rule, state, 0, 0, [("sees", 0, G1, (1,))])
                self.told(rule, state, 1, 0, [("nothing", (0,), (0,))])
            self.told(rule_of(first), state, 0, 0, [("sees", 0, G1, (0, 1))])

    def test_more_than_one_entry_by_bar(self):
        entries = [allow(0, P0), allow(2, P0), allow(2, G0)]
        state = state_of(entries, [(0, P0)])
        reasons = [("sees", 0, P0, ()), ("sees", 2, P0, ()), ("sees", 2, G0, (0,))]
        self.told(rule_of("bar"), state, 0, 2, reasons)
        self.told(rule_of("near"), state, 0, 2, reasons[1:])
        self.told(rule_of("near"), state, 0, 1, reasons[:1])

    def test_any_bar_on_the_way_by_bar(self):
        state = state_of([allow(2, P0), bar(1, P0), bar(0, G0), allow(0, P0)], [(0, P0)])
        self.told(rule_of("bar"), state, 0, 2, [("barred", 1, P0, ()), ("barred", 0, G0, (0,))])
        self.told(rule_of("bar"), state, 0, 0, [("barred", 0, G0, (0,))])
        self.told(rule_of("near"), state, 0, 2, [("sees", 2, P0, ())])
        self.told(rule_of("near"), state, 0, 1, [("barred", 1, P0, ())])
        self.told(rule_of("near"), state, 0, 0, [("barred", 0, G0, (0,))])

    def test_both_kinds_at_the_nearest_folder(self):
        state = state_of([allow(1, P0), bar(1, G0), bar(1, G1), bar(0, P0)], [(0, P0), (1, P0)])
        self.told(rule_of("near"), state, 0, 2, [("barred", 1, G0, (0,)), ("barred", 1, G1, (1,))])
        reasons = [("barred", 1, G0, (0,)), ("barred", 1, G1, (1,)), ("barred", 0, P0, ())]
        self.told(rule_of("bar"), state, 0, 2, reasons)

    def test_no_further_than_a_shut_folder(self):
        state = state_of([allow(0, P0), bar(1, P0)], shut=(False, False, True))
        for rule in RULES:
            self.told(rule, state, 0, 2, [("nothing", (2,), ())])
        state = state_of([bar(0, P0), allow(1, P0)], shut=(True, True, False))
        for rule in RULES:
            self.told(rule, state, 0, 2, [("sees", 1, P0, ())])
            self.told(rule, state, 0, 0, [("barred", 0, P0, ())])

    def test_a_full_list_of_entries(self):
        entries = [(folder, who, "allow") for folder in range(3) for who in (P0, P1, G0, G1)]
        reasons = [("sees", folder, who, groups) for who, groups in ((P0, ()), (G1, (1,))) for folder in range(3)]
        self.told(rule_of("bar"), state_of(entries, [(1, P0)]), 0, 2, reasons)
        self.told(rule_of("near"), state_of(entries, [(1, P0)]), 0, 2, reasons[2::3])

    def test_against_a_second_telling(self):
        chance = chance_of(161)
        for _ in range(120):
            people, folders = chance.randint(1, 3), chance.randint(1, 3)
            state = some_state(chance, people, folders, chance.choice((0, 1, 2, 4, 8)))
            rule, person, folder = chance.choice(RULES), chance.randrange(people), chance.randrange(folders)
            view = View(rule, state, person, folder)
            reasons = [reason for reason in all_candidates(people, folders) if view.holds(reason)]
            self.assertTrue(reasons)
            self.told(rule, state, person, folder, reasons)

    def test_the_reason_that_is_given_holds(self):
        chance = chance_of(162)
        for _ in range(400):
            house = some_house(chance)
            state = some_state(chance, house[0], len(house[2]))
            rule, person, folder = chance.choice(RULES), chance.randrange(house[0]), chance.randrange(len(house[2]))
            reason = reason_for(house, rule, state, person, folder)
            self.assertIs(View(rule, state, person, folder).holds(reason), True, (rule, state, person, folder, reason))
            self.assertIs(reason_holds(house, rule, state, person, folder, reason), True)
            self.assertIs(reason[0] == "sees", sees(house, rule, state, person, folder))
            self.assertEqual(reason_for(house, rule, state, person, folder), reason)


class WrongReasons(Checks, unittest.TestCase):
    VALUES = (HOUSE, rule_of("bar"), state_of([allow(1, G1)], [(0, P0), (1, G0)]), 0, 2)
    GOOD = ("sees", 1, G1, (0, 1))
    NOTHING = (HOUSE, rule_of("bar"), state_of([], [(0, P0), (1, G0)]), 0, 1)

    def fails(self, values, reasons):
        for reason in reasons:
            self.assertIs(reason_holds(*values, reason), False, reason)

    def test_any_object(self):
        self.assertIs(reason_holds(*self.VALUES, self.GOOD), True)
        self.fails(self.VALUES, WRONG + wrong_rows(self.GOOD) + wrong_rows(self.GOOD)[:3] + [((((),),),)])

    def test_one_wrong_part(self):
        words = ("barred", "nothing", "see", "", "SEES", None, True, b"sees", 0)
        wrong = [with_part(self.GOOD, 0, word) for word in words]
        wrong += [with_part(self.GOOD, 1, folder) for folder in wrong_numbers(3) + [0, 2]]
        everybody = (G0, G2, P0, P1, ("g", True), ["g", 1], ("g",), "g1", None, 1)
        wrong += [with_part(self.GOOD, 2, who) for who in everybody]
        groups = ((), (0,), (1,), (1, 0), (0, 1, 1), (0, 1, 2), (False, True), (0, True), (False, 1), [0, 1], ("0", 1))
        wrong += [with_part(self.GOOD, 3, one) for one in groups + (None, 0, "01", {0: 1})]
        self.fails(self.VALUES, wrong)

    def test_nothing_with_one_wrong_part(self):
        good = ("nothing", (1, 0), (0, 1))
        self.assertIs(reason_holds(*self.NOTHING, good), True)
        words = ("sees", "barred", "", None, "Nothing", False)
        wrong = wrong_rows(good) + [with_part(good, 0, word) for word in words]
        ways = ((0, 1), (1,), (0,), (1, 0, 0), (2, 1, 0), (), (True, 0), (1, False), (True, False), [1, 0], None, "10")
        wrong += [with_part(good, 1, way) for way in ways]
        groups = ((0,), (1,), (1, 0), (), (0, 1, 2), (0, 1, 1), (False, True), (0, True), [0, 1], None, "01", 0)
        wrong += [with_part(good, 2, some) for some in groups]
        self.fails(self.NOTHING, wrong + [good + ((),), ("nothing", (1, 0), (0, 1), ())])
        # An entry that counts stands on the way.
        self.fails(self.VALUES, [("nothing", (2, 1, 0), (0, 1))])

    def test_true_is_not_one(self):
        values = (HOUSE, rule_of("bar"), state_of([bar(1, P0)]), 0, 1)
        self.assertIs(reason_holds(*values, ("barred", 1, P0, ())), True)
        self.fails(values, [("barred", True, P0, ()), ("barred", 1, ("p", False), ())])
        self.fails(values, [("barred", 1, P0, []), ("barred", 1, P0, ""), ("barred", 1, P0, None)])


class Wrong(Checks, unittest.TestCase):
    def test_wrong_arguments(self):
        good = (HOUSE, rule_of("bar"), STATE, 0, 0)
        wrong = (wrong_houses(), wrong_rules(), wrong_states(), wrong_numbers(2), wrong_numbers(3))
        for at, things in enumerate(wrong):
            self.check_wrong(reason_for, good, at, ERRORS[at], things)
            self.check_wrong(reason_holds, good + (("nothing", (0,), ()),), at, ERRORS[at], things)
            self.check_wrong(reason_holds, good + (None,), at, ERRORS[at], things[::5])

    def test_the_first_wrong_argument_tells(self):
        good = (HOUSE, rule_of("bar"), STATE, 0, 0)
        self.check_first_wrong(reason_for, good, ERRORS)
        self.check_first_wrong(reason_holds, good + (("nothing", (0,), ()),), ERRORS + (None,))


if __name__ == "__main__":
    unittest.main()
