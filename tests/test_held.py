"""Points 20 to 22: what must be held apart so that wishes are sure."""

import unittest
from itertools import combinations

from case_makers import BIG, EXAMPLE, G0, P0, P1, at_once, case_of, in_a_row, looks_in, some_case
from case_makers import some_lively_case, wrong_cases, wrong_knowns
from checks import Checks
from lot_makers import all_pairs, some_lot, some_wishes, wrong_lots, wrong_pair_lists
from makers import RULES, chance_of
from reckon import Reckoning, reckoning_of
from reckon_more import all_keep, held_orders, is_good_lot, least_forced_of, least_lots_of
from sawwhen.errors import BadCase, BadKnown, BadLot, NotSure, TooMany
from sawwhen.held import held_sure, least_forced, least_lots, orders_against
from sawwhen.orders import is_order

JOIN0, LEAVE0, SHUT1, SEE = ("join", 0, P0), ("leave", 0, P0), ("shut", 1), ("look", 0, 1)
JOIN, LEAVE, LOOK = (JOIN0, 0, 99), (LEAVE0, 0, 99), (SEE, 0, 99)
SAW, NOT = ((2, True),), ((2, False),)

# Two looks and three deeds, for wrong objects.
CASE = case_of(at_once(SEE, JOIN0, SEE, LEAVE0, SHUT1))

# Both looks must see: each behind the joining and ahead of the leaving.
BOTH = case_of(at_once(JOIN0, SEE, SEE, LEAVE0))
SEVEN = case_of(at_once(JOIN0, SEE, *[("shut", 0)] * 5))


class HeldSure(Checks, unittest.TestCase):
    def told(self, case, wishes, lot, wanted):
        self.check_answer(held_sure, ("case", "wishes", "lot"), (case, wishes, lot), wanted)

    def test_the_example(self):
        self.told(EXAMPLE, SAW, ((0, 2), (2, 1)), True)
        self.told(EXAMPLE, SAW, ((0, 2),), False)
        self.told(EXAMPLE, SAW, (), False)
        self.told(EXAMPLE, NOT, ((2, 0),), True)
        self.told(EXAMPLE, NOT, ((0, 1), (0, 2), (1, 2)), True)
        self.told(EXAMPLE, NOT, ((0, 1),), False)

    def test_no_wishes_and_no_pairs(self):
        for lot in ((), ((0, 1),), ((0, 1), (1, 0))):
            self.told(EXAMPLE, (), lot, True)
        self.told(case_of(()), (), (), True)
        self.told(case_of(((SEE, 0, 9),)), ((0, False),), (), True)
        self.told(case_of(((SEE, 0, 9),)), ((0, True),), (), False)

    def test_a_lot_that_leaves_no_order(self):
        for lot in (((0, 1), (1, 0)), ((0, 1), (1, 2), (2, 0)), tuple(all_pairs(EXAMPLE))):
            for wishes in (SAW, NOT, ()):
                self.told(EXAMPLE, wishes, lot, True)
        # The look is surely ahead of the join.
        case = case_of(((SEE, 0, 5), (JOIN0, 6, 9)))
        self.told(case, ((0, True),), ((1, 0),), True)
        self.told(case, ((0, True),), ((0, 1),), False)
        self.told(case, ((0, False),), ((0, 1),), True)

    def test_all_wishes_are_asked_for(self):
        self.told(BOTH, ((1, True), (2, True)), ((0, 1), (1, 3)), False)
        self.told(BOTH, ((1, True), (2, True)), ((0, 2), (2, 3)), False)
        self.told(BOTH, ((1, True), (2, True)), ((0, 1), (0, 2), (1, 3), (2, 3)), True)
        self.told(BOTH, ((1, True), (2, True)), ((0, 1), (1, 2), (2, 3)), True)
        self.told(BOTH, ((1, True),), ((0, 1), (1, 3)), True)

    def test_pairs_that_follow_from_others(self):
        # The look is held behind the join by another event.
        case = case_of(at_once(JOIN0, ("shut", 0), SEE))
        self.told(case, SAW, ((0, 1), (1, 2)), True)
        self.told(case, SAW, ((0, 1),), False)
        case = case_of(((JOIN0, 0, 4), (("shut", 0), 3, 9), (SEE, 5, 9)))
        self.told(case, SAW, (), True)

    def test_against_all_orders(self):
        chance = chance_of(201)
        sure = 0
        for _ in range(400):
            case = some_lively_case(chance) if chance.random() < 0.7 else some_case(chance)
            told = reckoning_of(case)
            wishes, lot = some_wishes(chance, case, told), some_lot(chance, case)
            wanted = all_keep(told, wishes, lot)
            sure += wanted and bool(wishes) and bool(held_orders(told, lot))
            self.told(case, wishes, lot, wanted)
        self.assertGreater(sure, 30)

    def test_as_many_events_as_can_be(self):
        chance = chance_of(202)
        for case in BIG.values():
            told = reckoning_of(case)
            for most in (2, 4, 8):
                wishes, lot = some_wishes(chance, case, told), some_lot(chance, case, most)
                self.told(case, wishes, lot, all_keep(told, wishes, lot))


class LeastLots(Checks, unittest.TestCase):
    def told(self, case, wishes, pairs, wanted):
        self.check_answer(least_lots, ("case", "wishes", "pairs"), (case, wishes, pairs), wanted)

    def test_the_example(self):
        pairs = all_pairs(EXAMPLE)
        self.assertEqual(len(pairs), 6)
        self.told(EXAMPLE, SAW, pairs, [((0, 2), (2, 1))])
        self.told(EXAMPLE, NOT, pairs, [((1, 0),), ((1, 2),), ((2, 0),)])
        self.told(EXAMPLE, SAW, pairs[::-1], [((0, 2), (2, 1))])
        self.told(EXAMPLE, SAW, [(2, 1), (0, 2)], [((0, 2), (2, 1))])
        self.told(EXAMPLE, SAW, [(0, 2)], [])
        self.told(EXAMPLE, SAW, [], [])
        self.told(EXAMPLE, NOT, [(0, 1), (0, 2), (2, 1)], [])

    def test_sure_without(self):
        for wishes in ((), ((0, False),)):
            case = case_of(((SEE, 0, 5), (JOIN0, 6, 9)))
            for pairs in ([], [(0, 1)], [(1, 0)], [(1, 0), (0, 1)]):
                self.told(case, wishes, pairs, [()])
        self.told(case_of(()), (), [], [()])

    def test_no_order_keeps_the_wishes(self):
        self.told(case_of(((SEE, 0, 5), (JOIN0, 6, 9))), ((0, True),), [(0, 1), (1, 0)], [])
        self.told(case_of(at_once(SEE, SEE)), ((0, True),), [(0, 1), (1, 0)], [])
        self.told(case_of(at_once(SEE, SEE)), ((0, False), (1, True)), [(0, 1), (1, 0)], [])

    def test_lots_of_one_two_and_three_pairs(self):
        case = case_of((JOIN, LEAVE, LOOK))
        self.told(case, SAW, all_pairs(case), [((0, 2), (1, 0)), ((0, 2), (2, 1))])
        self.told(case, NOT, all_pairs(case), [((0, 1), (1, 2)), ((1, 0), (2, 1)), ((2, 0),)])
        self.told(BOTH, ((1, True), (2, True)), [(3, 0), (0, 1), (0, 2), (1, 3), (2, 3), (1, 2)], [
            ((0, 1), (0, 2), (1, 3), (2, 3)), ((0, 1), (0, 2), (3, 0)), ((0, 1), (1, 2), (2, 3)), ((0, 1), (1, 2), (3, 0))])

    def test_a_pair_and_its_reverse_make_nothing_sure(self):
        case = case_of((JOIN, LOOK))
        self.told(case, ((1, True),), [(0, 1), (1, 0)], [((0, 1),)])
        self.told(case, ((1, True),), [(1, 0)], [])
        # Of three pairs in a ring each two leave an order, all together none.
        case = case_of((JOIN, LEAVE, LOOK))
        self.told(case, SAW, [(0, 1), (1, 2), (2, 0)], [])

    def test_a_pair_that_is_sure_is_in_no_lot(self):
        case = case_of(((JOIN0, 0, 5), (("bar", 0, P0), 0, 9), (SEE, 6, 9)))
        self.told(case, SAW, [(0, 2), (2, 1), (0, 1)], [((2, 1),)])

    def test_the_list_stays_as_it_is(self):
        pairs = [(2, 1), (0, 2), (1, 0)]
        least_lots(EXAMPLE, SAW, pairs)
        self.assertEqual(pairs, [(2, 1), (0, 2), (1, 0)])

    def test_against_all_orders(self):
        chance = chance_of(211)
        lengths = {}
        for at in range(200):
            case = some_lively_case(chance) if at % 5 else some_case(chance)
            told = Reckoning(case)
            # Half of the time the wishes and the pairs are those of one order, so that they go together.
            one = chance.choice(told.told)
            wishes, pairs = tuple(sorted(one.outcomes.items())), list(combinations(one.order, 2))
            if at % 2:
                wishes, pairs = some_wishes(chance, case, told), all_pairs(case)
            pairs = chance.sample(pairs, min(len(pairs), chance.choice((0, 2, 4, 6, 6))))
            wanted = least_lots_of(told, wishes, pairs)
            for lot in wanted:
                lengths[len(lot)] = lengths.get(len(lot), 0) + 1
            self.told(case, wishes, pairs, wanted)
        self.assertTrue({0, 1, 2, 3} <= set(lengths), lengths)

    def test_as_many_events_as_can_be(self):
        chance = chance_of(212)
        for name in ("deeds and looks", "looks by login", "looks alone"):
            case = BIG[name]
            told = reckoning_of(case)
            for _ in range(3):
                wishes, pairs = some_wishes(chance, case, told)[:2], chance.sample(all_pairs(case), 3)
                self.told(case, wishes, pairs, least_lots_of(told, wishes, pairs))
            least_lots(case, wishes, chance.sample(all_pairs(case), 6))

    def test_wrong_lists_of_pairs(self):
        self.check_wrong(least_lots, (CASE, (), None), 2, BadLot, wrong_pair_lists(CASE))
        for case in (case_of(()), case_of(in_a_row(SEE))):
            self.check_wrong(least_lots, (case, (), None), 2, BadLot, [[(0, 1)], [(0, 0)], [(1, 0)], (), None])

    def test_too_many_pairs(self):
        pairs = all_pairs(CASE)
        for wishes in ((), ((0, True),)):
            self.check_wrong(least_lots, (CASE, wishes, None), 2, TooMany, [pairs[:7], pairs, pairs[::-1], pairs[3:10]])
        for many in range(7):
            self.assertEqual(least_lots(CASE, (), pairs[:many]), [()])


class OrdersAgainst(Checks, unittest.TestCase):
    def check(self, case, wishes, lot, wanted):
        """wanted tells for each pair whether the wishes are sure without it."""
        rows = orders_against(case, wishes, lot)
        self.assertEqual(orders_against(case=case, wishes=wishes, lot=lot), rows)
        self.assertIs(type(rows), list)
        self.assertIsNot(orders_against(case, wishes, lot), rows)
        self.assertEqual([order is None for order in rows], wanted, (case, wishes, lot))
        told = reckoning_of(case)
        for at, order in enumerate(rows):
            if order is not None:
                self.assertIs(type(order), tuple)
                self.assertIs(is_order(case, order), True)
                one = next(one for one in told.told if one.order == order)
                self.assertTrue(all(one.ahead(*pair) for pair in lot[:at] + lot[at + 1:]), (case, lot, order))
                self.assertFalse(one.keeps(wishes), (case, wishes, order))

    def test_the_example(self):
        self.check(EXAMPLE, SAW, ((0, 2), (2, 1)), [False, False])
        self.assertEqual(orders_against(EXAMPLE, SAW, ((0, 1), (0, 2), (2, 1))), [None, (2, 0, 1), (0, 1, 2)])
        self.check(EXAMPLE, NOT, ((2, 0),), [False])
        self.check(EXAMPLE, NOT, ((1, 2), (2, 0)), [True, True])
        self.check(EXAMPLE, NOT, ((0, 1), (2, 0)), [True, False])

    def test_no_wishes_and_no_pairs(self):
        self.check(EXAMPLE, (), (), [])
        self.check(EXAMPLE, (), ((0, 1), (0, 2)), [True, True])
        self.check(case_of(()), (), (), [])

    def test_not_sure(self):
        for wishes, lot in ((SAW, ()), (SAW, ((0, 2),)), (NOT, ()), (NOT, ((0, 1),))):
            self.check_wrong(orders_against, (EXAMPLE, wishes, None), 2, NotSure, [lot])
        # A lot that leaves no order.
        for wishes in (SAW, NOT, ()):
            for lot in (((0, 1), (1, 0)), ((0, 1), (1, 2), (2, 0))):
                self.check_wrong(orders_against, (EXAMPLE, wishes, None), 2, NotSure, [lot])

    def test_against_all_orders(self):
        chance = chance_of(213)
        checked = 0
        for _ in range(800):
            case = some_lively_case(chance)
            told = reckoning_of(case)
            wishes, lot = some_wishes(chance, case, told), some_lot(chance, case, 5)
            if is_good_lot(told, wishes, lot):
                checked += bool(wishes) and bool(lot)
                wanted = [all_keep(told, wishes, tuple(other for other in lot if other != pair)) for pair in lot]
                self.check(case, wishes, lot, wanted)
            else:
                self.check_wrong(orders_against, (case, wishes, None), 2, NotSure, [lot])
        self.assertGreater(checked, 50)

    def test_as_many_events_and_pairs_as_can_be(self):
        for name in ("deeds and looks", "looks by login"):
            case = BIG[name]
            told = reckoning_of(case)
            one = told.told[7777]
            wishes = tuple(sorted(one.outcomes.items()))
            lot = tuple(sorted(combinations(one.order, 2)))
            wanted = [all_keep(told, wishes, tuple(other for other in lot if other != pair)) for pair in lot[::9]]
            self.assertEqual([order is None for order in orders_against(case, wishes, lot)][::9], wanted)


class LeastForced(Checks, unittest.TestCase):
    def told(self, case, wishes, wanted):
        self.check_answer(least_forced, ("case", "wishes"), (case, wishes), wanted)

    def too_many(self, case, wishes):
        self.check_wrong(least_forced, (case, None), 1, TooMany, [wishes])

    def test_the_example(self):
        self.told(EXAMPLE, SAW, [((0, 2), (2, 1))])
        self.told(EXAMPLE, NOT, [((1, 0),), ((1, 2),), ((2, 0),)])

    def test_none_needed(self):
        self.told(EXAMPLE, (), [()])
        self.told(case_of(()), (), [()])
        self.told(case_of(((SEE, 0, 5), (JOIN0, 6, 9))), ((0, False),), [()])
        self.told(case_of(at_once(*[SHUT1] * 6)), (), [()])

    def test_no_order_keeps_the_wishes(self):
        self.told(case_of(((SEE, 0, 5), (JOIN0, 6, 9))), ((0, True),), [])
        self.told(case_of(at_once(SEE)), ((0, True),), [])
        # The look that sees is behind the join, so the other one is, too, and nothing takes it back.
        self.told(case_of(((SEE, 0, 9), (JOIN0, 0, 9), (SEE, 10, 19))), ((0, True), (2, False)), [])

    def test_one_two_and_three_needed(self):
        self.told(case_of(at_once(JOIN0, SEE)), ((1, True),), [((0, 1),)])
        self.told(case_of(at_once(JOIN0, LEAVE0, SEE)), SAW, [((0, 2), (1, 0)), ((0, 2), (2, 1))])
        self.assertIsNone(least_forced_of(reckoning_of(BOTH), ((1, True), (2, True))))
        self.too_many(BOTH, ((1, True), (2, True)))
        self.told(BOTH, ((1, True),), [((0, 1), (1, 3)), ((0, 1), (3, 0))])

    def test_five_six_and_seven_events(self):
        whats = [JOIN0, SEE] + [("shut", 0)] * 5
        for many in (5, 6):
            self.told(case_of(at_once(*whats[:many])), ((1, True),), [((0, 1),)])
        self.too_many(SEVEN, ((1, True),))
        self.too_many(SEVEN, ())
        # Also where no order keeps the wishes, or there is but one order.
        self.too_many(case_of(in_a_row(*whats)), ((1, True),))
        self.too_many(case_of(at_once(*[SEE] * 7)), ((1, True),))
        self.too_many(BIG["looks alone"], ())

    def test_against_all_orders(self):
        chance = chance_of(221)
        found = {}
        for at in range(150):
            case = some_lively_case(chance, many=6 if at % 30 == 0 else None)
            told = Reckoning(case)
            wishes = some_wishes(chance, case, told)
            wanted = least_forced_of(told, wishes)
            word = "many" if wanted is None else len(wanted[0]) if wanted else "none"
            found[word] = found.get(word, 0) + 1
            if wanted is None:
                self.too_many(case, wishes)
            else:
                self.told(case, wishes, wanted)
        self.assertEqual(set(found), {0, 1, 2, "none", "many"}, found)

    def test_it_agrees_with_the_least_lots(self):
        chance = chance_of(222)
        for _ in range(60):
            case = case_of([(JOIN0, 0, 9), (SEE, 0, 9), (chance.choice((LEAVE0, SHUT1, ("bar", 0, G0))), 2, 7)],
                           chance.choice(RULES))
            for wishes in (((1, True),), ((1, False),)):
                lots = least_lots(case, wishes, all_pairs(case))
                fewest = min((len(lot) for lot in lots), default=0)
                self.told(case, wishes, [lot for lot in lots if len(lot) == fewest])


class Wrong(Checks, unittest.TestCase):
    CALLS = [(held_sure, ((),)), (least_lots, ([],)), (orders_against, ((),)), (least_forced, ())]

    def test_cases(self):
        for function, more in self.CALLS:
            self.check_wrong(function, (None, ()) + more, 0, BadCase, wrong_cases())

    def test_wishes(self):
        for function, more in self.CALLS:
            self.check_wrong(function, (CASE, None) + more, 1, BadKnown, wrong_knowns(CASE))
            self.check_wrong(function, (case_of(()), None) + more, 1, BadKnown, [((0, True),), [], None, (None,)])
        self.assertEqual(looks_in(CASE), [0, 2])

    def test_lots(self):
        for function in (held_sure, orders_against):
            self.check_wrong(function, (CASE, (), None), 2, BadLot, wrong_lots(CASE))
            self.check_wrong(function, (CASE, ((0, True),), None), 2, BadLot, wrong_lots(CASE)[::7])
            for case in (case_of(()), case_of(in_a_row(SEE))):
                self.check_wrong(function, (case, (), None), 2, BadLot, [((0, 1),), ((0, 0),), ((1, 0),), [], None])

    def test_the_first_wrong_argument_tells(self):
        for function, more in self.CALLS:
            things = (None, True, "x", 10 ** 50, {}, (None,), [None])
            self.check_first_wrong(function, (CASE, ()) + more, (BadCase, BadKnown, BadLot)[:2 + len(more)], things)

    def test_wrong_wishes_tell_before_too_many(self):
        self.check_wrong(least_forced, (SEVEN, None), 1, BadKnown, wrong_knowns(case_of(at_once(SEE, SEE, *[SHUT1] * 5))))
        self.check_wrong(least_lots, (CASE, None, all_pairs(CASE)), 1, BadKnown, wrong_knowns(CASE))

    def test_people_and_folders_do_not_matter(self):
        case = case_of(at_once(("join", 0, P1), ("look", 1, 0)))
        self.assertEqual(least_forced(case, ((1, True),)), [()])


if __name__ == "__main__":
    unittest.main()
