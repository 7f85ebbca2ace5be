"""Points 11 and 12: cases, their orders and their places."""

import unittest
from itertools import permutations, product
from math import factorial

from case_makers import BIG, EXAMPLE, G0, HOUSE, JOIN, LOOK, P0, SHUT, at_once, case_of, in_a_row, some_case
from case_makers import wrong_bounds, wrong_cases, wrong_events, wrong_orders
from checks import Checks
from makers import RULE, RULES, SMALL, all_deeds, chance_of, with_part
from reckon import Reckoning
from sawwhen.deeds import after_deeds
from sawwhen.errors import BadCase, BadOrder
from sawwhen.houses import first_state
from sawwhen.orders import count_orders, is_case, is_order, places, sure_pairs, walk

SHUT0, OPEN0, SEE = ("shut", 0), ("open", 0), ("look", 0, 0)
FUNCTIONS = [(count_orders, ()), (sure_pairs, ()), (is_order, ((),)), (walk, ((),)), (places, ())]


class IsCase(unittest.TestCase):
    def holds(self, case):
        self.assertIs(is_case(case), True, case)

    def fails(self, thing):
        self.assertIs(is_case(thing), False, thing)

    def test_ordinary(self):
        self.holds(EXAMPLE)
        self.holds(case_of(()))
        self.assertIs(is_case(thing=EXAMPLE), True)
        for case in BIG.values():
            self.holds(case)

    def test_wrong(self):
        for thing in wrong_cases():
            self.fails(thing)

    def test_none_to_eight_events(self):
        for many in range(13):
            for event in (JOIN, SHUT, LOOK):
                self.assertIs(is_case(case_of((event,) * many)), many <= 8, many)

    def test_every_deed_and_look_of_the_house_and_no_other(self):
        for people, folders in product((1, 2, 4), (1, 3, 6)):
            house = (people, (0,) * (folders - 1), (False,) * folders, (), ())
            whats = all_deeds(people, folders) + all_looks(people, folders)
            for what in whats:
                self.holds((house, RULE, ((what, 0, 99),)))
            for what in set(all_deeds(4, 6) + all_looks(people + 1, folders + 1)) - set(whats):
                self.fails((house, RULE, ((what, 0, 99),)))

    def test_bounds(self):
        for early, late in product((-1, 0, 1, 50, 98, 99, 100), repeat=2):
            for what in (SHUT0, SEE):
                good = 0 <= early <= late <= 99
                self.assertIs(is_case(case_of(((what, early, late),))), good, (early, late))
        for early, late in wrong_bounds():
            self.fails(case_of(((SEE, early, late),)))

    def test_every_rule(self):
        for rule in RULES:
            self.holds(case_of((JOIN, SHUT, LOOK), rule))

    def test_a_wrong_event_at_any_place(self):
        for at in range(8):
            for event in wrong_events()[::7]:
                events = ((("shut", 2), 3, 7),) * at + (event,) + ((("shut", 2), 3, 7),) * (7 - at)
                self.fails((HOUSE, RULE, events))

    def test_many_cases(self):
        chance = chance_of(111)
        for _ in range(300):
            case = some_case(chance, 8)
            self.holds(case)
            self.fails(list(case))
            self.fails((case[0], case[1], list(case[2])))


class Orders(Checks, unittest.TestCase):
    def told(self, case, count, pairs):
        self.check_answer(count_orders, ("case",), (case,), count)
        self.check_answer(sure_pairs, ("case",), (case,), pairs)

    def test_the_example(self):
        self.told(EXAMPLE, 6, [])

    def test_no_event_and_one(self):
        self.told(case_of(()), 1, [])
        self.assertIs(is_order(case_of(()), ()), True)
        for what, early, late in ((SHUT0, 0, 0), (SEE, 99, 99), (SEE, 0, 99)):
            self.told(case_of(((what, early, late),)), 1, [])
            self.assertIs(is_order(case_of(((what, early, late),)), (0,)), True)

    def test_at_one_moment(self):
        for many in range(9):
            for what in (SHUT0, SEE):
                self.told(case_of(at_once(*(what,) * many)), factorial(many), [])

    def test_far_apart(self):
        for many in range(9):
            pairs = [(number, other) for number in range(many) for other in range(number + 1, many)]
            self.told(case_of(in_a_row(*(SEE,) * many)), 1, pairs)
            events = tuple((SHUT0, 90 - at, 90 - at) for at in range(many))
            self.told(case_of(events), 1, [(other, number) for number, other in reversed_pairs(many)])

    def test_touching(self):
        # What ends at the moment at which the other one begins may come behind it.
        self.told(case_of(((SEE, 0, 5), (SEE, 5, 9))), 2, [])
        self.told(case_of(((SEE, 0, 5), (SEE, 6, 9))), 1, [(0, 1)])
        self.told(case_of(((SEE, 5, 9), (SEE, 0, 5))), 2, [])
        self.told(case_of(((SEE, 6, 9), (SEE, 0, 5))), 1, [(1, 0)])
        events = ((SEE, 0, 0), (SEE, 0, 0), (SEE, 99, 99), (SEE, 99, 99))
        self.told(case_of(events), 4, [(0, 2), (0, 3), (1, 2), (1, 3)])

    def test_neighbours_alone_can_change_places(self):
        for many, count in enumerate((1, 1, 2, 3, 5, 8, 13, 21, 34)):
            events = tuple((SEE, at, at + 1) for at in range(many))
            pairs = [(number, other) for number in range(many) for other in range(number + 2, many)]
            self.told(case_of(events), count, pairs)

    def test_one_event_beside_a_row(self):
        events = in_a_row(SHUT0, OPEN0, SHUT0, OPEN0, SHUT0, OPEN0, SHUT0) + ((SEE, 0, 99),)
        pairs = [(number, other) for number in range(7) for other in range(number + 1, 7)]
        self.told(case_of(events), 8, pairs)

    def test_is_order_of_every_tuple_of_numbers(self):
        chance = chance_of(112)
        for _ in range(40):
            case = some_case(chance, 4)
            orders = set(Reckoning(case).orders)
            many = len(case[2])
            for length in range(many + 2):
                for thing in product(range(many + 1), repeat=length):
                    self.assertIs(is_order(case, thing), thing in orders, (case, thing))

    def test_an_order_is_what_moments_can_be_found_for(self):
        chance = chance_of(113)
        for _ in range(30):
            case = some_case(chance, 4)
            bounds = [(early % 7, early % 7 + (late - early) % 5) for _, early, late in case[2]]
            case = with_part(case, 2, tuple((event[0],) + bound for event, bound in zip(case[2], bounds)))
            found = set()
            for moments in product(*[range(early, late + 1) for early, late in bounds]):
                for order in permutations(range(len(bounds))):
                    row = [moments[number] for number in order]
                    if row == sorted(row):
                        found.add(order)
            for order in permutations(range(len(bounds))):
                self.assertIs(is_order(case, order), order in found, (case, order))

    def test_is_order_takes_any_object(self):
        for case in (EXAMPLE, BIG["deeds alone"], case_of((SEE_EVENT, SEE_EVENT))):
            for thing in wrong_orders(case):
                self.assertIs(is_order(case, thing), False, thing)
        self.assertIs(is_order(case_of(()), ()), True)
        for thing in ([], (0,), ((),), None, 0, False, "", {}, set(), range(0), b"", object(), len):
            self.assertIs(is_order(case_of(()), thing), False, thing)
        for thing in ((False,), (True,), ("0",), (None,), ((0,),), [0], 0, (0, 0), (1,), ()):
            self.assertIs(is_order(case_of((SEE_EVENT,)), thing), False, thing)
        self.check_answer(is_order, ("case", "thing"), (EXAMPLE, (2, 0, 1)), True)
        self.check_answer(is_order, ("case", "thing"), (EXAMPLE, [2, 0, 1]), False)

    def test_against_all_orders(self):
        chance = chance_of(114)
        for _ in range(200):
            case = some_case(chance)
            told = Reckoning(case)
            self.told(case, len(told.orders), told.sure_pairs())
            for order in told.orders:
                self.assertIs(is_order(case, order), True)
        for case in BIG.values():
            self.told(case, 40320, [])


class Walk(Checks, unittest.TestCase):
    def told(self, case, order, wanted):
        self.check_answer(walk, ("case", "order"), (case, order), wanted)

    def test_the_example(self):
        first = first_state(SMALL, RULE)
        joined = after_deeds(SMALL, RULE, [JOIN[0]])
        shut = after_deeds(SMALL, RULE, [SHUT[0]])
        both = after_deeds(SMALL, RULE, [SHUT[0], JOIN[0]])
        self.told(EXAMPLE, (0, 1, 2), [first, joined, both, both])
        self.told(EXAMPLE, (2, 1, 0), [first, first, shut, both])
        self.told(EXAMPLE, (1, 2, 0), [first, shut, shut, both])

    def test_no_event(self):
        for rule in RULES:
            self.told(case_of((), rule), (), [first_state(SMALL, rule)])

    def test_looks_alone(self):
        self.told(case_of(at_once(SEE, SEE, SEE)), (1, 2, 0), [first_state(SMALL, RULE)] * 4)

    def test_deeds_alone(self):
        deeds = [("join", 0, P0), ("bar", 1, G0), ("login", 0), ("shut", 1)]
        for rule in RULES:
            for order in permutations(range(4)):
                done = [deeds[number] for number in order]
                wanted = [after_deeds(SMALL, rule, done[:many]) for many in range(5)]
                self.told(case_of(at_once(*deeds), rule), order, wanted)

    def test_against_all_orders(self):
        chance = chance_of(121)
        for _ in range(100):
            case = some_case(chance)
            for told in Reckoning(case).told[:30]:
                self.told(case, told.order, told.walk)

    def test_wrong_orders(self):
        for case in (EXAMPLE, case_of((SEE_EVENT, SEE_EVENT)), case_of(in_a_row(SHUT0, OPEN0))):
            self.check_wrong(walk, (case, None), 1, BadOrder, wrong_orders(case))
        case = case_of(in_a_row(SHUT0, SEE, OPEN0))
        wrong = [order for order in permutations(range(3)) if order != (0, 1, 2)]
        self.assertEqual(len(wrong), 5)
        self.check_wrong(walk, (case, None), 1, BadOrder, wrong)
        self.check_wrong(walk, (case_of(()), None), 1, BadOrder, [[], (0,), None, True, 0, "", {}])


class Places(Checks, unittest.TestCase):
    def told(self, case, wanted):
        self.check_answer(places, ("case",), (case,), wanted)

    def test_the_example(self):
        first = first_state(SMALL, RULE)
        joined = after_deeds(SMALL, RULE, [JOIN[0]])
        shut = after_deeds(SMALL, RULE, [SHUT[0]])
        both = after_deeds(SMALL, RULE, [SHUT[0], JOIN[0]])
        self.told(EXAMPLE, [
            ((), first, 1, 6), ((0,), joined, 1, 2), ((0, 1), both, 2, 1), ((0, 1, 2), both, 6, 1),
            ((0, 2), joined, 2, 1), ((1,), shut, 1, 2), ((1, 2), shut, 2, 1), ((2,), first, 1, 2)])

    def test_no_event(self):
        self.told(case_of(()), [((), first_state(SMALL, RULE), 1, 1)])

    def test_looks_alone(self):
        first = first_state(SMALL, RULE)
        self.told(case_of(at_once(SEE, SEE)), [((), first, 1, 2), ((0,), first, 1, 1), ((0, 1), first, 2, 1),
                                               ((1,), first, 1, 1)])

    def test_one_order_leads_to_another_state(self):
        case = case_of(at_once(SHUT0, OPEN0))
        first, shut = first_state(SMALL, RULE), after_deeds(SMALL, RULE, [SHUT0])
        self.told(case, [((), first, 1, 2), ((0,), shut, 1, 1), ((0, 1), first, 1, 1), ((0, 1), shut, 1, 1),
                         ((1,), first, 1, 1)])

    def test_eight_looks(self):
        rows = places(BIG["looks alone"])
        self.assertEqual(len(rows), 256)
        for done, _, ways, further in rows:
            self.assertEqual((ways, further), (factorial(len(done)), factorial(8 - len(done))))

    def test_kinds_of_values(self):
        for done, state, ways, further in places(EXAMPLE):
            self.assertEqual([type(part) for part in (done, state, ways, further)], [tuple, tuple, int, int])
            self.assertTrue(all(type(event) is int for event in done))

    def test_against_all_orders(self):
        chance = chance_of(122)
        for _ in range(200):
            case = some_case(chance)
            self.told(case, Reckoning(case).places())

    def test_each_level_counts_all_orders(self):
        for case in BIG.values():
            totals = {}
            for done, _, ways, further in places(case):
                totals[len(done)] = totals.get(len(done), 0) + ways * further
            self.assertEqual(totals, {many: 40320 for many in range(9)})


class Wrong(Checks, unittest.TestCase):
    def test_cases(self):
        wrong = wrong_cases()
        for function, more in FUNCTIONS:
            self.check_wrong(function, (None,) + more, 0, BadCase, wrong)

    def test_the_first_wrong_argument_tells(self):
        for function, values, errors in (
                (count_orders, (EXAMPLE,), (BadCase,)), (sure_pairs, (EXAMPLE,), (BadCase,)),
                (is_order, (EXAMPLE, (0, 1, 2)), (BadCase, None)), (walk, (EXAMPLE, (0, 1, 2)), (BadCase, BadOrder)),
                (places, (EXAMPLE,), (BadCase,))):
            self.check_first_wrong(function, values, errors)


SEE_EVENT = (SEE, 5, 5)


def all_looks(people, folders):
    return [("look", person, folder) for person in range(people) for folder in range(folders)]


def reversed_pairs(many):
    """All pairs, in the order in which they ascend when they are turned round."""
    return [(number, other) for other in range(many) for number in range(other)]


if __name__ == "__main__":
    unittest.main()
