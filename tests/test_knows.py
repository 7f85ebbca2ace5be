"""Point 28: what people learn by their looks, and what they would learn if they were told."""

import unittest

from case_makers import BIG, EXAMPLE, P0, P1, at_once, case_of, in_a_row, looks_in, some_lively_case
from case_makers import wrong_cases, wrong_look_numbers, wrong_orders
from checks import Checks
from lot_makers import some_watched_case
from makers import RULES, chance_of, wrong_numbers
from reckon import reckoning_of
from reckon_more import looks_known, tell_of
from sawwhen.errors import BadCase, BadLook, BadOrder, BadPerson
from sawwhen.knows import claim_holds, learns, tell

JOIN0, LEAVE0, SHUT1, SEE, SEE1 = ("join", 0, P0), ("leave", 0, P0), ("shut", 1), ("look", 0, 1), ("look", 1, 1)
NAMES = ("case", "order", "person", "number")

# By the second of its looks person 0 knows of the first one, if it did not see; person 1 knows nothing.
TWICE = case_of(((JOIN0, 0, 9), (SEE, 1, 2), (SEE, 3, 4)))

# The looks of three people by turns, at a folder that is opened to all of them in between.
GROUP = ("g", 0)
HOUSE = (3, (), (False,), (), tuple((0, ("p", person)) for person in range(3)))
TURNS = case_of([(("allow", 0, GROUP), 0, 20)] + [(("look", at % 3, 0), 2 + 2 * at, 3 + 2 * at) for at in range(5)],
                house=HOUSE)


class Learns(Checks, unittest.TestCase):
    def told(self, case, order, person, wanted):
        self.check_answer(learns, NAMES, (case, order, person), wanted)

    def test_the_example(self):
        for order in reckoning_of(EXAMPLE).orders:
            self.told(EXAMPLE, order, 0, (2,))
            self.told(EXAMPLE, order, 1, ())

    def test_no_event_no_look_and_a_look_that_is_always_so(self):
        self.told(case_of(()), (), 0, ())
        self.told(case_of(at_once(JOIN0, SHUT1)), (1, 0), 1, ())
        case = case_of(at_once(SEE, ("look", 1, 0), SHUT1, SEE1))
        for order in reckoning_of(case).orders[:8]:
            self.told(case, order, 0, (0, 1))
            self.told(case, order, 1, (0, 1, 3))

    def test_a_person_without_looks(self):
        self.told(TWICE, (0, 1, 2), 1, ())
        self.told(case_of(in_a_row(JOIN0, SEE)), (0, 1), 1, (1,))

    def test_one_learns_of_others_by_what_one_sees(self):
        # The first one who sees knows that all looks behind see; who does not see knows it of those ahead.
        orders = {one.saw_row(): one.order for one in reckoning_of(TURNS).told}
        self.told(TURNS, orders[True, True, True, True, True], 0, (1, 2, 3, 4, 5))
        self.told(TURNS, orders[True, True, True, True, True], 1, (2, 3, 4, 5))
        self.told(TURNS, orders[True, True, True, True, True], 2, (3, 4, 5))
        self.told(TURNS, orders[False, False, False, True, True], 0, (1, 4, 5))
        self.told(TURNS, orders[False, False, False, True, True], 1, (1, 2, 5))
        self.told(TURNS, orders[False, False, False, False, False], 2, (1, 2, 3))

    def test_against_all_orders(self):
        chance = chance_of(281)
        further = 0
        for at in range(300):
            case = some_watched_case(chance) if at % 2 else some_lively_case(chance, share=0.6)
            told = reckoning_of(case)
            one = chance.choice(told.told)
            for person in range(case[0][0]):
                wanted = looks_known(told, person, one)
                further += len(wanted) > len([number for number in told.looks if case[2][number][0][1] == person])
                self.told(case, one.order, person, wanted)
        self.assertGreater(further, 50)

    def test_one_knows_what_one_learns(self):
        chance = chance_of(282)
        for _ in range(60):
            case = some_lively_case(chance, share=0.6)
            order = chance.choice(reckoning_of(case).orders)
            for person in range(case[0][0]):
                known = learns(case, order, person)
                for number in looks_in(case):
                    saw = ("saw", number)
                    claim = saw if claim_holds(case, order, saw) else ("not", saw)
                    self.assertEqual(claim_holds(case, order, ("knows", person, claim)), number in known)

    def test_as_many_events_as_can_be(self):
        for name in ("deeds and looks", "looks by login", "looks alone"):
            case = BIG[name]
            told = reckoning_of(case)
            for one in told.told[::9999]:
                for person in (0, 1):
                    self.told(case, one.order, person, looks_known(told, person, one))


class Tell(Checks, unittest.TestCase):
    def told(self, case, order, person, number, wanted):
        self.check_answer(tell, NAMES, (case, order, person, number), wanted)

    def test_the_example(self):
        for order in reckoning_of(EXAMPLE).orders:
            self.told(EXAMPLE, order, 0, 2, [])

    def test_one_look_tells_of_another(self):
        # That the first look saw tells that the second one did; that the second one did not tells of the first one.
        orders = {one.saw_row(): one.order for one in reckoning_of(TWICE).told}
        self.told(TWICE, orders[True, True], 0, 1, [(1, (2,))])
        self.told(TWICE, orders[True, True], 0, 2, [])
        self.told(TWICE, orders[False, False], 0, 2, [(1, (1,))])
        self.told(TWICE, orders[False, False], 0, 1, [])
        self.told(TWICE, orders[False, True], 0, 1, [])

    def test_what_they_know_anyhow_is_not_told(self):
        orders = {one.saw_row(): one.order for one in reckoning_of(TURNS).told}
        order = orders[True, True, True, True, True]
        self.told(TURNS, order, 0, 1, [(2, (2,))])
        self.told(TURNS, order, 1, 3, [])
        self.told(TURNS, order, 2, 5, [])
        order = orders[False, True, True, True, True]
        self.told(TURNS, order, 1, 2, [(0, (3,))])
        self.told(TURNS, order, 1, 3, [])
        self.told(TURNS, orders[False, False, False, False, False], 1, 5, [(2, (4,))])

    def test_not_for_oneself(self):
        for order in reckoning_of(TURNS).orders:
            for person in range(3):
                for number in learns(TURNS, order, person):
                    self.assertNotIn(person, [other for other, _ in tell(TURNS, order, person, number)])

    def test_a_look_of_another_one(self):
        # Person 0 can tell what person 1 saw, if they know it.
        orders = {one.saw_row(): one.order for one in reckoning_of(TURNS).told}
        order = orders[False, False, False, True, True]
        self.assertEqual(learns(TURNS, order, 1), (1, 2, 5))
        self.told(TURNS, order, 2, 3, [(0, (2,))])
        self.told(TURNS, order, 2, 2, [])
        self.check_wrong(tell, (TURNS, order, 1, None), 3, BadLook, [3, 4])

    def test_against_all_orders(self):
        chance = chance_of(283)
        further = 0
        for at in range(300):
            case = some_watched_case(chance) if at % 2 else some_lively_case(chance, share=0.7)
            told = reckoning_of(case)
            one = chance.choice(told.told)
            for person in range(case[0][0]):
                for number in told.looks:
                    if number in looks_known(told, person, one):
                        wanted = tell_of(told, one, person, number)
                        further += len(wanted)
                        self.told(case, one.order, person, number, wanted)
                    else:
                        self.check_wrong(tell, (case, one.order, person, None), 3, BadLook, [number])
        self.assertGreater(further, 50)

    def test_as_many_events_as_can_be(self):
        for name in ("deeds and looks", "looks by login"):
            case = BIG[name]
            told = reckoning_of(case)
            for one in told.told[::15000]:
                for person in (0, 1):
                    for number in looks_known(told, person, one)[:2]:
                        self.told(case, one.order, person, number, tell_of(told, one, person, number))


class Wrong(Checks, unittest.TestCase):
    ORDER = (0, 1, 2)

    def test_cases(self):
        self.check_wrong(learns, (None, self.ORDER, 0), 0, BadCase, wrong_cases())
        self.check_wrong(tell, (None, self.ORDER, 0, 2), 0, BadCase, wrong_cases())

    def test_each_argument(self):
        for function, more in ((learns, ()), (tell, (2,))):
            self.check_wrong(function, (EXAMPLE, None, 0) + more, 1, BadOrder, wrong_orders(EXAMPLE))
            self.check_wrong(function, (EXAMPLE, self.ORDER, None) + more, 2, BadPerson, wrong_numbers(2))
        for case in (EXAMPLE, TWICE):
            for person in (0, 1):
                self.check_wrong(tell, (case, self.ORDER, person, None), 3, BadLook, wrong_look_numbers(case))
        self.check_wrong(tell, (EXAMPLE, self.ORDER, 1, None), 3, BadLook, [2])
        # One and True, zero and False are not the same.
        self.check_wrong(tell, (TWICE, self.ORDER, 0, None), 3, BadLook, [True, False, (1,), "1"])
        self.check_wrong(tell, (case_of(at_once(SEE, SEE1)), (0, 1), 0, None), 3, BadLook, [True, False, -1, 2, None])

    def test_the_first_wrong_argument_tells(self):
        self.check_first_wrong(learns, (EXAMPLE, self.ORDER, 0), (BadCase, BadOrder, BadPerson))
        self.check_first_wrong(tell, (EXAMPLE, self.ORDER, 0, 2), (BadCase, BadOrder, BadPerson, BadLook))

    def test_each_rule(self):
        for rule in RULES:
            case = case_of(in_a_row(JOIN0, SEE, ("login", 0), SEE, LEAVE0, SEE, ("leave", 0, P1)), rule)
            self.assertEqual(learns(case, tuple(range(7)), 1), (1, 3, 5))


if __name__ == "__main__":
    unittest.main()
