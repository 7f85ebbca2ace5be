"""Points 13 and 14: what looks saw in the orders of a case, and who could see what at some moment."""

import unittest
from itertools import permutations

from case_makers import BIG, EXAMPLE, JOIN, LOOK, P0, P1, SHUT, at_once, case_of, in_a_row, some_case
from case_makers import wrong_cases, wrong_look_numbers, wrong_orders
from checks import Checks
from makers import RULES, chance_of, wrong_numbers
from reckon import Reckoning, reckoning_of, word_of
from sawwhen.errors import BadCase, BadFolder, BadLook, BadOrder, BadPerson
from sawwhen.looks import count_seen, look_orders, look_word, longest_sights, outcome_rows, outcomes
from sawwhen.looks import sight_orders, sight_word
from sawwhen.orders import is_order

JOIN0, LEAVE0, SEE = ("join", 0, P0), ("leave", 0, P0), ("look", 0, 1)
BAR0, CLEAR0, LOGIN0 = ("bar", 1, P0), ("clear", 1, P0), ("login", 0)
MIXED = case_of((JOIN, SHUT, LOOK, (("look", 1, 0), 0, 99)))
BY_NUMBER = ("case", "number")
BY_SPOT = ("case", "person", "folder")


class Outcomes(Checks, unittest.TestCase):
    def told(self, case, order, wanted):
        self.check_answer(outcomes, ("case", "order"), (case, order), wanted)

    def test_the_example(self):
        for order in permutations(range(3)):
            self.told(EXAMPLE, order, [(2, order == (0, 2, 1))])

    def test_no_event_and_no_look(self):
        self.told(case_of(()), (), [])
        self.told(case_of(at_once(JOIN0, LEAVE0)), (1, 0), [])

    def test_a_look_ahead_of_all_deeds_and_behind_them(self):
        self.told(case_of(at_once(SEE, JOIN0, SEE)), (0, 1, 2), [(0, False), (2, True)])
        self.told(case_of(at_once(SEE, JOIN0, SEE)), (2, 1, 0), [(0, True), (2, False)])

    def test_a_login_by_now_and_by_login(self):
        for rule in RULES:
            by_login = rule[2] == "login"
            case = case_of(at_once(JOIN0, SEE, LOGIN0, SEE), rule)
            self.told(case, (0, 1, 2, 3), [(1, not by_login), (3, True)])
            self.told(case, (2, 0, 1, 3), [(1, not by_login), (3, not by_login)])
            self.told(case, (2, 3, 1, 0), [(1, False), (3, False)])

    def test_true_and_false(self):
        for number, saw in outcomes(MIXED, (0, 2, 1, 3)):
            self.assertIs(type(saw), bool)
            self.assertIs(type(number), int)

    def test_against_all_orders(self):
        chance = chance_of(131)
        for _ in range(100):
            case = some_case(chance)
            for told in Reckoning(case).told[:30]:
                self.told(case, told.order, sorted(told.outcomes.items()))

    def test_wrong_orders(self):
        self.check_wrong(outcomes, (EXAMPLE, None), 1, BadOrder, wrong_orders(EXAMPLE))
        case = case_of(in_a_row(JOIN0, SEE))
        self.check_wrong(outcomes, (case, None), 1, BadOrder, wrong_orders(case) + [(1, 0)])


class OutcomeRows(Checks, unittest.TestCase):
    def told(self, case, wanted):
        self.check_answer(outcome_rows, ("case",), (case,), wanted)

    def test_the_example(self):
        self.told(EXAMPLE, [((False,), 5, (0, 1, 2)), ((True,), 1, (0, 2, 1))])

    def test_no_event_and_no_look(self):
        self.told(case_of(()), [((), 1, ())])
        self.told(case_of(at_once(JOIN0, LEAVE0, JOIN0)), [((), 6, (0, 1, 2))])

    def test_looks_alone(self):
        self.told(case_of(at_once(SEE, ("look", 1, 1))), [((False, True), 2, (0, 1))])
        self.told(BIG["looks alone"], [((False, True) * 4, 40320, tuple(range(8)))])

    def test_the_tuples_are_in_the_order_of_the_numbers(self):
        self.told(case_of(in_a_row(SEE, JOIN0, SEE)), [((False, True), 1, (0, 1, 2))])
        events = in_a_row(SEE, JOIN0, SEE)
        self.told(case_of(events[::-1]), [((True, False), 1, (2, 1, 0))])

    def test_the_least_of_the_orders(self):
        # It sees where only the join stands ahead of it, or the leaving ahead of the join.
        case = case_of(at_once(SEE, JOIN0, LEAVE0))
        self.told(case, [((False,), 4, (0, 1, 2)), ((True,), 2, (1, 0, 2))])
        case = case_of(at_once(JOIN0, SEE, SEE))
        self.told(case, [((False, False), 2, (1, 2, 0)), ((False, True), 1, (1, 0, 2)), ((True, False), 1, (2, 0, 1)),
                         ((True, True), 2, (0, 1, 2))])

    def test_against_all_orders(self):
        chance = chance_of(132)
        for _ in range(250):
            case = some_case(chance)
            self.told(case, rows_of(case))

    def test_as_many_events_as_can_be(self):
        for case in BIG.values():
            self.told(case, rows_of(case))


class LookWords(Checks, unittest.TestCase):
    def told(self, case, number, word, count):
        self.check_answer(look_word, BY_NUMBER, (case, number), word)
        self.check_answer(count_seen, BY_NUMBER, (case, number), count)

    def check_orders(self, case, number, count, total):
        seen, unseen = look_orders(case, number)
        self.assertEqual(look_orders(case=case, number=number), (seen, unseen))
        self.assertIs(type(look_orders(case, number)), tuple)
        for order, saw, many in ((seen, True, count), (unseen, False, total - count)):
            if many == 0:
                self.assertIsNone(order)
            else:
                self.assertIs(is_order(case, order), True)
                self.assertIn((number, saw), outcomes(case, order))

    def test_the_example(self):
        self.told(EXAMPLE, 2, "sometimes", 1)
        seen, unseen = look_orders(EXAMPLE, 2)
        self.assertEqual(seen, (0, 2, 1))
        self.check_orders(EXAMPLE, 2, 1, 6)

    def test_always_and_never(self):
        case = case_of(at_once(SEE, ("look", 1, 1), ("shut", 0)))
        self.told(case, 0, "never", 0)
        self.told(case, 1, "always", 6)
        self.check_orders(case, 0, 0, 6)
        self.check_orders(case, 1, 6, 6)

    def test_one_look(self):
        for person, word in ((0, "never"), (1, "always")):
            case = case_of(((("look", person, 0), 99, 99),))
            self.told(case, 0, word, person)
            self.check_orders(case, 0, person, 1)

    def test_a_look_ahead_of_all_deeds_and_behind_them(self):
        case = case_of(in_a_row(SEE, JOIN0, BAR0, CLEAR0, SEE))
        self.told(case, 0, "never", 0)
        self.told(case, 4, "always", 1)

    def test_against_all_orders(self):
        chance = chance_of(133)
        cases = [some_case(chance, share=chance.choice((0.3, 0.6, 1))) for _ in range(200)]
        for case in cases + list(BIG.values()):
            told = reckoning_of(case)
            for number in told.looks:
                saws = [one.outcomes[number] for one in told.told]
                self.told(case, number, word_of(saws), sum(saws))
                self.check_orders(case, number, sum(saws), len(saws))

    def test_wrong_numbers(self):
        for function in (look_word, look_orders, count_seen):
            for case in (EXAMPLE, MIXED, case_of(()), case_of(at_once(SEE)), case_of(at_once(SEE, JOIN0, SEE))):
                self.check_wrong(function, (case, None), 1, BadLook, wrong_look_numbers_or_all(case))


class Sights(Checks, unittest.TestCase):
    def told(self, case, person, folder, word, longest):
        self.check_answer(sight_word, BY_SPOT, (case, person, folder), word)
        self.check_answer(longest_sights, BY_SPOT, (case, person, folder), longest)

    def check_orders(self, told, spot):
        """Both orders are as they should be, by all orders; return the word."""
        order, other = sight_orders(told.case, *spot)
        self.assertEqual(sight_orders(case=told.case, person=spot[0], folder=spot[1]), (order, other))
        self.assertIs(type(sight_orders(told.case, *spot)), tuple)
        sees = {one.order: one.sees_at_some_moment(spot) for one in told.told}
        for one, wanted in ((order, True), (other, False)):
            if one is None:
                self.assertNotIn(wanted, sees.values())
            else:
                self.assertIs(type(one), tuple)
                self.assertIs(sees[one], wanted, (told.case, spot, one))
        self.assertFalse(order is None and other is None)
        return "none" if order is None else "every" if other is None else "some"

    def test_the_example(self):
        self.told(EXAMPLE, 0, 1, "some", 1)
        self.told(EXAMPLE, 0, 0, "every", 2)
        self.told(EXAMPLE, 1, 1, "every", 2)
        self.told(EXAMPLE, 1, 0, "every", 3)
        told = Reckoning(EXAMPLE)
        for spot in told.spots():
            self.check_orders(told, spot)

    def test_no_event(self):
        self.told(case_of(()), 0, 0, "none", None)
        self.told(case_of(()), 1, 0, "every", 0)
        self.assertEqual(sight_orders(case_of(()), 0, 1), (None, ()))
        self.assertEqual(sight_orders(case_of(()), 1, 1), ((), None))

    def test_the_beginning_and_the_end_are_moments(self):
        self.told(case_of(at_once(("leave", 0, P1))), 1, 1, "every", 0)
        self.told(case_of(at_once(JOIN0)), 0, 1, "every", 0)
        self.told(case_of(in_a_row(JOIN0, LEAVE0, JOIN0, LEAVE0)), 0, 1, "every", 0)

    def test_the_longest_run_is_one_without_a_gap(self):
        self.told(case_of(in_a_row(JOIN0, SEE, LEAVE0, JOIN0, SEE, SEE, LEAVE0, SEE)), 0, 1, "every", 2)
        self.told(case_of(at_once(JOIN0, LEAVE0, SEE, SEE)), 0, 1, "every", 2)
        self.told(case_of(at_once(LEAVE0, BAR0, JOIN0, SEE)), 0, 1, "some", 1)
        self.told(case_of(at_once(JOIN0, LEAVE0, BAR0)), 0, 1, "some", 0)

    def test_looks_lengthen_the_run(self):
        for many in range(9):
            case = case_of(at_once(*(("look", 0, 0),) * many))
            self.told(case, 1, 1, "every", many)
            self.told(case, 0, 1, "none", None)

    def test_zero_is_not_none(self):
        self.assertIs(longest_sights(case_of(()), 0, 0), None)
        self.assertEqual(longest_sights(case_of(()), 1, 0), 0)
        self.assertIs(type(longest_sights(case_of(()), 1, 0)), int)

    def test_against_all_orders(self):
        chance = chance_of(141)
        cases = [some_case(chance, share=0.2) for _ in range(150)]
        for case in cases + list(BIG.values()):
            told = reckoning_of(case)
            spots = told.spots() if len(case[2]) < 8 else told.spots()[:3]
            for spot in spots:
                longest = max(one.longest_run(spot) for one in told.told)
                word = self.check_orders(told, spot)
                self.told(case, *spot, word, longest - 1 if longest else None)

    def test_wrong_persons_and_folders(self):
        for function in (sight_word, sight_orders, longest_sights):
            self.check_wrong(function, (EXAMPLE, 0, 0), 1, BadPerson, wrong_numbers(2))
            self.check_wrong(function, (EXAMPLE, 0, 0), 2, BadFolder, wrong_numbers(2))
            lone = case_of((), house=(1, (), (False,), (), ()))
            self.check_wrong(function, (lone, 0, 0), 1, BadPerson, wrong_numbers(1))
            self.check_wrong(function, (lone, 0, 0), 2, BadFolder, wrong_numbers(1))


class Wrong(Checks, unittest.TestCase):
    def test_cases(self):
        wrong = wrong_cases()
        for function, more in (
                (outcomes, ((),)), (outcome_rows, ()), (look_word, (0,)), (look_orders, (0,)), (count_seen, (0,)),
                (sight_word, (0, 0)), (sight_orders, (0, 0)), (longest_sights, (0, 0))):
            self.check_wrong(function, (None,) + more, 0, BadCase, wrong)

    def test_the_first_wrong_argument_tells(self):
        self.check_first_wrong(outcomes, (EXAMPLE, (0, 1, 2)), (BadCase, BadOrder))
        self.check_first_wrong(outcome_rows, (EXAMPLE,), (BadCase,))
        for function in (look_word, look_orders, count_seen):
            self.check_first_wrong(function, (EXAMPLE, 2), (BadCase, BadLook))
        for function in (sight_word, sight_orders, longest_sights):
            self.check_first_wrong(function, (EXAMPLE, 0, 0), (BadCase, BadPerson, BadFolder))


def rows_of(case):
    """All (saw, count, order), by all orders."""
    rows = {}
    for told in reckoning_of(case).told:
        rows.setdefault(told.saw_row(), []).append(told.order)
    return sorted((saw, len(orders), min(orders)) for saw, orders in rows.items())


def wrong_look_numbers_or_all(case):
    return wrong_look_numbers(case) if case[2] else wrong_numbers(0) + [0]


if __name__ == "__main__":
    unittest.main()
