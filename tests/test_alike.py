"""Points 24 and 25: events that can be exchanged, and orders that are alike."""

import unittest
from math import factorial

from case_makers import BIG, EXAMPLE, G0, P0, P1, at_once, case_of, in_a_row, some_case
from case_makers import some_lively_case, wrong_cases, wrong_orders
from checks import Checks
from makers import RULES, chance_of
from reckon import Reckoning, reckoning_of
from reckon_more import alike_to, classes_of, exchanged, free_pairs_of, swaps_of
from sawwhen.errors import BadCase, BadOrder, TooMany
from sawwhen.idle import least_alike, needed_pairs, order_classes, orders_alike, swap_pairs, swap_path
from sawwhen.looks import outcomes
from sawwhen.orders import count_orders, is_order, walk

JOIN0, LEAVE0, SHUT1, OPEN1, SEE = ("join", 0, P0), ("leave", 0, P0), ("shut", 1), ("open", 1), ("look", 0, 1)
ALLOW, BAR, CLEAR, LOOK0 = ("allow", 0, P0), ("bar", 0, P0), ("clear", 0, P0), ("look", 0, 0)
HOUSE = (1, (0, 0), (False,) * 3, ((0, G0, "allow"),), ())

# Exactly one hundred classes, and one more.
HUNDRED = case_of(((CLEAR, 3, 6), (LOOK0, 0, 9), (BAR, 1, 2), (LOOK0, 0, 9), (CLEAR, 0, 0), (ALLOW, 0, 9)), house=HOUSE)
HUNDRED_AND_ONE = case_of(((LOOK0, 0, 2), (LOOK0, 3, 3), (JOIN0, 0, 9), (LOOK0, 3, 7), (BAR, 0, 9), (BAR, 0, 9)),
                          house=HOUSE)


class SwapPairs(Checks, unittest.TestCase):
    def told(self, case, swaps, needed):
        self.check_answer(swap_pairs, ("case",), (case,), swaps)
        self.check_answer(needed_pairs, ("case",), (case,), needed)

    def test_the_example(self):
        self.told(EXAMPLE, [(0, 1)], [(0, 2), (1, 2)])

    def test_no_event_and_one(self):
        self.told(case_of(()), [], [])
        self.told(case_of(((JOIN0, 0, 9),)), [], [])

    def test_looks_alone_and_deeds_alone(self):
        self.told(case_of(at_once(SEE, SEE, LOOK0)), [(0, 1), (0, 2), (1, 2)], [])
        self.told(case_of(at_once(JOIN0, SHUT1, BAR)), [(0, 1), (0, 2), (1, 2)], [])
        self.told(case_of(at_once(JOIN0, LEAVE0, SHUT1)), [(0, 2), (1, 2)], [(0, 1)])
        self.told(case_of(at_once(JOIN0, JOIN0)), [(0, 1)], [])

    def test_far_apart_neighbours_and_touching(self):
        self.told(case_of(in_a_row(JOIN0, LEAVE0, SEE)), [], [])
        self.told(case_of(((JOIN0, 0, 1), (SEE, 1, 2), (LEAVE0, 2, 3))), [], [(0, 1), (1, 2)])
        self.told(case_of(((JOIN0, 0, 1), (OPEN1, 1, 2), (LEAVE0, 2, 3))), [(0, 1), (1, 2)], [])
        self.told(case_of(((JOIN0, 0, 4), (SEE, 5, 9), (LEAVE0, 4, 5))), [], [(0, 2), (1, 2)])

    def test_three_deeds_that_set_one_thing(self):
        # The last one tells alone; so of two of them the order tells if they can be the last ones.
        self.told(case_of(at_once(ALLOW, BAR, CLEAR)), [], [(0, 1), (0, 2), (1, 2)])
        # The last one is the last one for sure: the others need no order, if nobody looks.
        self.told(case_of(((ALLOW, 0, 5), (BAR, 0, 5), (CLEAR, 6, 9))), [(0, 1)], [])
        self.told(case_of(((ALLOW, 0, 5), (BAR, 0, 5), (CLEAR, 6, 9), (LOOK0, 10, 10))), [(0, 1)], [])
        self.told(case_of(((ALLOW, 0, 5), (BAR, 0, 5), (CLEAR, 6, 9), (LOOK0, 6, 9))), [], [(0, 1), (2, 3)])
        self.told(case_of(((ALLOW, 0, 5), (BAR, 0, 6), (CLEAR, 6, 9))), [(0, 1)], [(1, 2)])

    def test_the_last_state_tells_without_looks(self):
        for deed, other in ((ALLOW, BAR), (JOIN0, ("login", 0)), (("move", 1, 2), ("move", 2, 1)), (SHUT1, OPEN1)):
            case = case_of(at_once(deed, other), house=HOUSE)
            self.told(case, [], [(0, 1)])
            self.assertNotEqual(walk(case, (0, 1))[-1], walk(case, (1, 0))[-1])

    def test_a_move_that_drops_by_rule(self):
        for rule in RULES:
            case = case_of(at_once(("move", 1, 2), ("allow", 1, P0)), rule, HOUSE)
            drops = rule[1] == "drops"
            self.told(case, [] if drops else [(0, 1)], [(0, 1)] if drops else [])

    def test_a_look_whose_outcome_never_changes(self):
        self.told(case_of(at_once(("look", 1, 1), JOIN0, LEAVE0)), [(0, 1), (0, 2)], [(1, 2)])

    def test_a_group_in_a_group(self):
        # The looks tell of each join, but no two joins of one another.
        case = case_of(at_once(("join", 0, ("g", 1)), ("join", 1, P0), SEE))
        self.told(case, [(0, 1)], [(0, 2), (1, 2)])
        # A login in between tells of the joins ahead of it; a ring is closed by the first of two.
        case = case_of(at_once(("join", 0, ("g", 1)), ("join", 1, G0)))
        self.told(case, [], [(0, 1)])

    def test_against_all_orders(self):
        chance = chance_of(241)
        for at in range(250):
            case = some_case(chance) if at % 3 == 0 else some_lively_case(chance)
            told = Reckoning(case)
            swaps = swaps_of(told)
            self.told(case, swaps, [pair for pair in free_pairs_of(told) if pair not in swaps])

    def test_as_many_events_as_can_be(self):
        for case in BIG.values():
            told = reckoning_of(case)
            swaps = swaps_of(told)
            self.told(case, swaps, [pair for pair in free_pairs_of(told) if pair not in swaps])


class Alike(Checks, unittest.TestCase):
    def check_pair(self, case, order, other, alike):
        self.check_answer(orders_alike, ("case", "order", "other"), (case, order, other), alike)
        path = swap_path(case, order, other)
        self.assertEqual(swap_path(case=case, order=order, other=other), path)
        if not alike:
            self.assertIsNone(path)
            return
        self.assertIs(type(path), list)
        self.assertEqual((path[0], path[-1]), (order, other))
        turned = [(number, behind) for at, number in enumerate(order) for behind in order[at + 1:]
                  if other.index(number) > other.index(behind)]
        self.assertEqual(len(path), len(turned) + 1)
        swaps = swap_pairs(case)
        for one, following in zip(path, path[1:]):
            at = next(at for at in range(len(order)) if one[at] != following[at])
            self.assertEqual(exchanged(one, at), following)
            self.assertIn(tuple(sorted(one[at:at + 2])), swaps)
            self.assertIs(is_order(case, following), True)

    def test_the_example(self):
        for order, other, alike in (((0, 1, 2), (1, 0, 2), True), ((0, 2, 1), (0, 1, 2), False),
                                    ((2, 1, 0), (2, 0, 1), True), ((0, 2, 1), (0, 2, 1), True),
                                    ((1, 2, 0), (0, 2, 1), False)):
            self.check_pair(EXAMPLE, order, other, alike)
            self.check_pair(EXAMPLE, other, order, alike)
        self.check_answer(swap_path, ("case", "order", "other"), (EXAMPLE, (1, 0, 2), (0, 1, 2)),
                          [(1, 0, 2), (0, 1, 2)])
        self.check_answer(swap_path, ("case", "order", "other"), (EXAMPLE, (1, 0, 2), (1, 0, 2)), [(1, 0, 2)])

    def test_the_least_of_the_example(self):
        for order, least in (((0, 1, 2), (0, 1, 2)), ((1, 0, 2), (0, 1, 2)), ((0, 2, 1), (0, 2, 1)),
                             ((1, 2, 0), (1, 2, 0)), ((2, 1, 0), (2, 0, 1)), ((2, 0, 1), (2, 0, 1))):
            self.check_answer(least_alike, ("case", "order"), (EXAMPLE, order), least)

    def test_no_event_and_one(self):
        for case, order in ((case_of(()), ()), (case_of(((JOIN0, 0, 9),)), (0,))):
            self.check_pair(case, order, order, True)
            self.check_answer(least_alike, ("case", "order"), (case, order), order)

    def test_looks_alone(self):
        case = BIG["looks alone"]
        last = tuple(range(7, -1, -1))
        self.check_pair(case, last, tuple(range(8)), True)
        self.assertEqual(len(swap_path(case, last, tuple(range(8)))), 29)
        self.check_answer(least_alike, ("case", "order"), (case, last), tuple(range(8)))

    def test_against_all_orders(self):
        chance = chance_of(251)
        kinds = set()
        for at in range(150):
            case = some_case(chance) if at % 3 == 0 else some_lively_case(chance)
            told = Reckoning(case)
            swaps = swaps_of(told)
            for _ in range(3):
                order = chance.choice(told.orders)
                alike = alike_to(order, swaps)
                self.check_answer(least_alike, ("case", "order"), (case, order), min(alike))
                for other in (chance.choice(told.orders), chance.choice(sorted(alike)), min(alike)):
                    kinds.add((other in alike, other == order))
                    self.check_pair(case, order, other, other in alike)
        self.assertEqual(len(kinds), 3)

    def test_as_many_events_as_can_be(self):
        chance = chance_of(252)
        for name in ("deeds and looks", "looks by login", "deeds alone", "moves"):
            case = BIG[name]
            orders = reckoning_of(case).orders
            needed = needed_pairs(case)
            for _ in range(4):
                order, other = chance.choice(orders), chance.choice(orders)
                alike = all((order.index(one) < order.index(two)) == (other.index(one) < other.index(two))
                            for one, two in needed)
                self.check_pair(case, order, other, alike)
                least = least_alike(case, order)
                self.check_pair(case, order, least, True)
                self.assertLessEqual(least, order)
                self.assertEqual(outcomes(case, order), outcomes(case, least))
                self.assertEqual(walk(case, order)[-1], walk(case, least)[-1])
            self.assertEqual(least_alike(case, order), min(alike_to(order, swap_pairs(case))))

    def test_wrong_orders(self):
        wrong = wrong_orders(EXAMPLE)
        for function, more in ((orders_alike, (None,)), (swap_path, (None,)), (least_alike, ())):
            self.check_wrong(function, (EXAMPLE, None) + more, 1, BadOrder, wrong)
            row = case_of(in_a_row(JOIN0, SEE))
            self.check_wrong(function, (row, None) + more, 1, BadOrder, wrong_orders(row) + [(1, 0)])
        for function in (orders_alike, swap_path):
            self.check_wrong(function, (EXAMPLE, (0, 1, 2), None), 2, BadOrder, wrong)
            self.check_first_wrong(function, (EXAMPLE, (0, 1, 2), (0, 1, 2)), (BadCase, BadOrder, BadOrder))
        self.check_first_wrong(least_alike, (EXAMPLE, (0, 1, 2)), (BadCase, BadOrder))


class OrderClasses(Checks, unittest.TestCase):
    def told(self, case, wanted):
        self.check_answer(order_classes, ("case",), (case,), wanted)

    def check(self, case):
        told = Reckoning(case)
        rows = []
        for alike in classes_of(told, swaps_of(told)):
            rows.append((alike[0], len(alike), outcomes(case, alike[0])))
        if len(rows) > 100:
            self.check_wrong(order_classes, (None,), 0, TooMany, [case])
        else:
            self.told(case, rows)
        return len(rows)

    def test_the_example(self):
        self.told(EXAMPLE, [((0, 1, 2), 2, [(2, False)]), ((0, 2, 1), 1, [(2, True)]), ((1, 2, 0), 1, [(2, False)]),
                            ((2, 0, 1), 2, [(2, False)])])

    def test_no_event_and_one(self):
        self.told(case_of(()), [((), 1, [])])
        self.told(case_of(((JOIN0, 0, 9),)), [((0,), 1, [])])
        self.told(case_of(((SEE, 0, 9),)), [((0,), 1, [(0, False)])])

    def test_one_class_for_all_orders(self):
        self.told(case_of(at_once(*[SEE] * 6)), [(tuple(range(6)), 720, [(at, False) for at in range(6)])])
        self.told(case_of(in_a_row(SEE, JOIN0, SEE)), [((0, 1, 2), 1, [(0, False), (2, True)])])

    def test_the_inner_lists_are_new(self):
        order_classes(EXAMPLE)[0][2].append("changed")
        self.assertEqual(order_classes(EXAMPLE)[0][2], [(2, False)])

    def test_one_hundred_classes_and_more(self):
        self.assertEqual(self.check(HUNDRED), 100)
        self.assertEqual(self.check(HUNDRED_AND_ONE), 101)
        self.assertEqual(len(order_classes(HUNDRED)), 100)
        self.assertEqual(sum(count for _, count, _ in order_classes(HUNDRED)), count_orders(HUNDRED))

    def test_six_events_and_seven(self):
        self.assertEqual(len(order_classes(case_of(at_once(*[SHUT1] * 6)))), 1)
        self.assertEqual(order_classes(case_of(at_once(*[SHUT1] * 6)))[0][1], factorial(6))
        for many in (7, 8):
            for whats in ([SHUT1] * many, [SEE] * many, [JOIN0, LEAVE0] * 3 + [SEE] * (many - 6)):
                for events in (at_once(*whats), in_a_row(*whats)):
                    self.check_wrong(order_classes, (None,), 0, TooMany, [case_of(events)])

    def test_against_all_orders(self):
        chance = chance_of(253)
        for at in range(150):
            self.check(some_case(chance) if at % 3 == 0 else some_lively_case(chance))
        for _ in range(6):
            self.check(some_lively_case(chance, many=6))

    def test_each_rule(self):
        for rule in RULES:
            case = case_of(at_once(("login", 0), JOIN0, ("look", 0, 0), ("leave", 0, P1), ("look", 1, 1)), rule)
            self.check(case)


class Wrong(Checks, unittest.TestCase):
    def test_cases(self):
        for function, more in ((swap_pairs, ()), (needed_pairs, ()), (orders_alike, ((), ())), (swap_path, ((), ())),
                               (least_alike, ((),)), (order_classes, ())):
            self.check_wrong(function, (None,) + more, 0, BadCase, wrong_cases())


if __name__ == "__main__":
    unittest.main()
