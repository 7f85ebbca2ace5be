"""Point 23: deeds that never matter."""

import unittest

from case_makers import BIG, EXAMPLE, G0, G1, G2, P0, P1, at_once, case_of, in_a_row, some_case
from case_makers import some_lively_case, wrong_cases, wrong_events_of
from checks import Checks
from makers import RULES, SMALL, chance_of
from reckon import Reckoning, reckoning_of
from reckon_more import are_idle, changes, idle_lots_of
from sawwhen.errors import BadCase, BadEvent, TooMany
from sawwhen.idle import idle_events, idle_lots, parting_order
from sawwhen.orders import is_order

JOIN0, LEAVE0, SHUT1, OPEN1, SEE = ("join", 0, P0), ("leave", 0, P0), ("shut", 1), ("open", 1), ("look", 0, 1)
ALLOW, BAR, CLEAR = ("allow", 0, P0), ("bar", 0, P0), ("clear", 0, P0)

# Either of two entries lets the person see, so one of them can be left out, but not both.
TWO_WAYS = (2, (0,), (False, False), (), ())
EITHER = case_of(in_a_row(("allow", 0, P0), ("allow", 1, P0), SEE), house=TWO_WAYS)

# A join and a leaving of one who was not in: the leaving matters only behind the join; nothing matters without both.
UNDONE = case_of(in_a_row(JOIN0, LEAVE0, SEE))


class Idle(Checks, unittest.TestCase):
    def told(self, case, events, lots):
        self.check_answer(idle_events, ("case",), (case,), events)
        if lots is None:
            self.check_wrong(idle_lots, (None,), 0, TooMany, [case])
        else:
            self.check_answer(idle_lots, ("case",), (case,), lots)
        for number in range(len(case[2])):
            self.check_order(case, number, number in events)

    def check_order(self, case, number, idle):
        order = parting_order(case, number)
        self.assertEqual(parting_order(case=case, number=number), order)
        if idle:
            self.assertIsNone(order, (case, number))
        else:
            self.assertIs(type(order), tuple)
            self.assertIs(is_order(case, order), True)
            told = reckoning_of(case)
            one = next(one for one in told.told if one.order == order)
            self.assertTrue(changes(told, one, (number,)), (case, number, order))

    def test_the_example(self):
        self.told(EXAMPLE, [2], [()])

    def test_no_event_and_one(self):
        self.told(case_of(()), [], [()])
        self.told(case_of(((SEE, 0, 9),)), [0], [()])
        self.told(case_of(((JOIN0, 0, 9),)), [0], [(0,)])

    def test_looks_alone(self):
        self.told(case_of(at_once(SEE, SEE, ("look", 1, 1))), [0, 1, 2], [()])
        self.told(case_of(at_once(*[SEE] * 6)), [0, 1, 2, 3, 4, 5], [()])

    def test_deeds_alone(self):
        self.told(case_of(at_once(JOIN0, SHUT1, BAR)), [0, 1, 2], [(0, 1, 2)])
        self.told(case_of(at_once(*[JOIN0, LEAVE0] * 3)), [0, 1, 2, 3, 4, 5], [(0, 1, 2, 3, 4, 5)])

    def test_deeds_behind_all_looks(self):
        self.told(case_of(in_a_row(SEE, JOIN0, SHUT1)), [0, 1, 2], [(1, 2)])
        self.told(case_of(in_a_row(JOIN0, SEE, SHUT1)), [1, 2], [(2,)])

    def test_each_but_not_together(self):
        self.told(EITHER, [0, 1, 2], [(0,), (1,)])
        # The same join twice.
        self.told(case_of(in_a_row(JOIN0, JOIN0, SEE)), [0, 1, 2], [(0,), (1,)])
        self.told(case_of(at_once(JOIN0, JOIN0, SEE)), [2], [()])

    def test_the_lots_ascend(self):
        # The person sees by their own entry, or by the group and its entry.
        case = case_of(in_a_row(JOIN0, ("allow", 1, P0), ("allow", 1, G0), SEE), house=TWO_WAYS)
        self.told(case, [0, 1, 2, 3], [(0, 2), (1,)])

    def test_together_but_not_each(self):
        self.told(UNDONE, [0, 2], [(0, 1)])
        # Who is in leaves and joins again: the joining is needed because of the leaving.
        house = (1, (0,), (False, False), ((0, G0, "allow"),), ((0, P0),))
        self.told(case_of(in_a_row(LEAVE0, JOIN0, SEE), house=house), [0, 2], [(0, 1)])
        # By the bar alone the person does not see; who is let in by another entry does, bar or no bar.
        house = (1, (0,), (False, False), ((0, P0, "allow"), (1, P0, "allow")), ())
        self.told(case_of(in_a_row(("bar", 1, P0), ("clear", 1, P0), SEE), house=house), [0, 2], [(0, 1)])

    def test_together_but_neither(self):
        # The person sees by the entry above, or in the group and with the folder shut; not by one of these alone.
        house = (1, (0,), (False, False), ((0, G0, "bar"), (0, P0, "allow"), (1, G0, "allow")), ())
        self.told(case_of(in_a_row(JOIN0, SHUT1, SEE), house=house), [2], [(0, 1)])
        self.told(case_of(in_a_row(SHUT1, JOIN0, SEE), house=house), [2], [(0, 1)])
        self.told(case_of(in_a_row(SHUT1, JOIN0, SEE, JOIN0), house=house), [2, 3], [(0, 1, 3)])
        self.told(case_of(in_a_row(SHUT1, SEE, JOIN0, SEE), house=house), [1, 3], [()])

    def test_a_look_between_tells(self):
        self.told(case_of(in_a_row(JOIN0, SEE, LEAVE0, SEE)), [1, 3], [()])
        self.told(case_of(at_once(JOIN0, SEE, LEAVE0)), [1], [()])

    def test_bounds_matter(self):
        self.told(case_of(((SEE, 0, 5), (JOIN0, 5, 9))), [0], [()])
        self.told(case_of(((SEE, 0, 5), (JOIN0, 6, 9))), [0, 1], [(1,)])

    def test_a_login_by_rule(self):
        for rule in RULES:
            case = case_of(in_a_row(JOIN0, ("login", 0), SEE), rule)
            now = rule[2] == "now"
            self.told(case, [1, 2] if now else [2], [(1,)] if now else [()])

    def test_an_entry_over_the_limit(self):
        # There is room for one more entry: the first bar is put, and keeps out the other one, which would count.
        spots = [(at, who) for at in range(3) for who in (G0, G1, G2, P0, P1)][:11]
        house = (2, (0, 0), (False,) * 3, tuple(spot + ("allow",) for spot in spots), ())
        case = case_of(in_a_row(("bar", 2, G2), ("bar", 2, P0), ("look", 0, 2)), house=house)
        self.told(case, [1, 2], [(0, 1)])

    def test_five_six_seven_and_eight_events(self):
        whats = [JOIN0, SEE] + [("open", 0)] * 6
        for many in (5, 6, 7, 8):
            idle = list(range(1, many))
            self.told(case_of(at_once(*whats[:many])), idle, [tuple(range(2, many))] if many < 7 else None)
        self.told(case_of(in_a_row(*[SEE] * 7)), list(range(7)), None)
        self.told(case_of(in_a_row(*[JOIN0] * 8)), list(range(8)), None)

    def test_against_all_orders(self):
        chance = chance_of(231)
        kinds = {}
        for at in range(600):
            case = some_case(chance) if at % 3 == 0 else some_lively_case(chance, share=0.3)
            if at % 3 == 1:
                # The looks stand behind the deeds, whose order is known.
                whats = sorted((what for what, _, _ in case[2] + (case[2][0],)), key=lambda what: what[0] == "look")
                case = case_of(in_a_row(*whats), case[1], case[0])
            told = Reckoning(case)
            events = [number for number in told.numbers if number in told.looks or are_idle(told, (number,))]
            lots = idle_lots_of(told)
            self.told(case, events, lots)
            for lot in lots:
                kind = (len(lot) > 1, all(number in events for number in lot))
                kinds[kind] = kinds.get(kind, 0) + 1
            singles = [number for number in events if number not in told.looks]
            kinds["apart"] = kinds.get("apart", 0) + (tuple(singles) not in lots)
        self.assertGreater(kinds["apart"], 2, kinds)
        self.assertGreater(kinds[True, False], 2, kinds)

    def test_six_events_against_all_orders(self):
        chance = chance_of(232)
        for _ in range(6):
            case = some_lively_case(chance, many=6, share=0.4)
            told = reckoning_of(case)
            events = [number for number in told.numbers if number in told.looks or are_idle(told, (number,))]
            self.told(case, events, idle_lots_of(told))

    def test_as_many_events_as_can_be(self):
        for name in ("deeds and looks", "looks by login", "the limit of entries"):
            case = BIG[name]
            told = reckoning_of(case)
            idle = idle_events(case)
            self.assertTrue(set(told.looks) <= set(idle))
            for number in told.numbers[:4]:
                if number not in told.looks:
                    self.assertEqual(number in idle, are_idle(told, (number,)), (name, number))
                self.check_order(case, number, number in idle)
        self.assertEqual(idle_events(BIG["deeds alone"]), list(range(8)))
        self.assertEqual(idle_events(BIG["looks alone"]), list(range(8)))

    def test_the_lists_are_new(self):
        for function in (idle_events, idle_lots):
            function(EITHER).append(None)
        self.told(EITHER, [0, 1, 2], [(0,), (1,)])


class Wrong(Checks, unittest.TestCase):
    def test_cases(self):
        for function, more in ((idle_events, ()), (idle_lots, ()), (parting_order, (0,))):
            self.check_wrong(function, (None,) + more, 0, BadCase, wrong_cases())

    def test_numbers(self):
        for case in (EXAMPLE, EITHER, UNDONE):
            self.check_wrong(parting_order, (case, None), 1, BadEvent, wrong_events_of(case))
        self.check_wrong(parting_order, (case_of(()), None), 1, BadEvent, [0, -1, None, False])
        self.assertIsNone(parting_order(case_of(((JOIN0, 0, 9),), house=SMALL), 0))

    def test_the_first_wrong_argument_tells(self):
        self.check_first_wrong(parting_order, (EXAMPLE, 0), (BadCase, BadEvent))


if __name__ == "__main__":
    unittest.main()
