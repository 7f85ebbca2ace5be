"""Points 1 to 3 and 37, and the interface: what holds over the whole program."""

import inspect
import unittest
from importlib import import_module
from itertools import permutations

from case_makers import P0, some_case, some_known, some_lively_case
from makers import chance_of
from reckon import reckoning_of
from sawwhen.desk import Desk
from sawwhen.errors import BadDeeds, BadText, SightError
from sawwhen.held import least_forced
from sawwhen.idle import idle_events, order_classes
from sawwhen.knows import learns
from sawwhen.known import count_left, cover, cover_holds, order_left, pairs_left
from sawwhen.live import House
from sawwhen.looks import look_orders, look_word, outcome_rows, outcomes
from sawwhen.orders import count_orders, is_order, places, sure_pairs, walk
from sawwhen.texts import read_case, show_case

# Each module of the interface, with the arguments of each function.
INTERFACE = {
    "houses": ("is_house thing", "is_rule thing", "first_state house rule", "sees house rule state person folder",
               "all_sights house rule state"),
    "deeds": ("after_deed house rule state deed", "after_deeds house rule deeds", "commute house rule deed other"),
    "orders": ("is_case thing", "count_orders case", "sure_pairs case", "is_order case thing", "walk case order",
               "places case"),
    "looks": ("outcomes case order", "outcome_rows case", "look_word case number", "look_orders case number",
              "count_seen case number", "sight_word case person folder", "sight_orders case person folder",
              "longest_sights case person folder"),
    "reasons": ("reason_for house rule state person folder", "reason_holds house rule state person folder reason"),
    "known": ("count_left case known", "count_ahead case known number other", "order_left case known",
              "pairs_left case known", "word_left case known number", "state_left case known", "bounds_left case known",
              "cover case known", "cover_holds case known thing", "least_clashes case known", "asked_next case known",
              "sure_sights case known"),
    "held": ("held_sure case wishes lot", "least_lots case wishes pairs", "orders_against case wishes lot",
             "least_forced case wishes"),
    "idle": ("idle_events case", "idle_lots case", "parting_order case number", "swap_pairs case", "needed_pairs case",
             "orders_alike case order other", "swap_path case order other", "least_alike case order",
             "order_classes case"),
    "knows": ("is_claim case thing", "claim_holds case order claim", "claim_word case claim", "claim_orders case claim",
              "doubt case order person claim", "chain_to case order people claim", "learns case order person",
              "tell case order person number"),
    "rules": ("rule_within rule other", "parting_case rule other", "rules_alike case rule", "rule_words case",
              "safest_rules case wishes"),
    "texts": ("show_deed deed", "show_case case", "read_case text", "read_deed house text"),
}
CLASSES = {
    ("live", "House"): ("__init__ self house rule", "do self deed", "look self person folder", "undo self",
                        "do_all self deeds", "state self", "log self", "case self spread last", "copy self",
                        "with_rule self rule"),
    ("desk", "Desk"): ("__init__ self", "say self row"),
}

# The example of point 37, written out.
HOUSE = (2, (0,), (False, False), ((0, ("g", 0), "allow"),), ((0, ("p", 1)),))
RULE = ("bar", "keeps", "now", True)
CASE = (HOUSE, RULE, ((("join", 0, P0), 10, 30), (("shut", 1), 20, 40), (("look", 0, 1), 25, 35)))


class Example(unittest.TestCase):
    def test_there_are_six_orders(self):
        self.assertEqual(count_orders(CASE), 6)
        self.assertEqual(sure_pairs(CASE), [])
        for order in permutations(range(3)):
            self.assertIs(is_order(CASE, order), True)

    def test_the_look_saw_in_one_of_them(self):
        self.assertEqual(look_word(CASE, 2), "sometimes")
        self.assertEqual(look_orders(CASE, 2)[0], (0, 2, 1))
        self.assertEqual(outcome_rows(CASE), [((False,), 5, (0, 1, 2)), ((True,), 1, (0, 2, 1))])

    def test_if_it_saw_the_join_was_ahead_of_the_shutting(self):
        self.assertEqual(pairs_left(CASE, ((2, True),)), [(0, 1), (0, 2), (2, 1)])
        self.assertEqual(order_left(CASE, ((2, True),)), (0, 2, 1))

    def test_by_what_comes_later(self):
        self.assertEqual(least_forced(CASE, ((2, True),)), [((0, 2), (2, 1))])
        self.assertEqual(idle_events(CASE), [2])
        self.assertEqual(len(order_classes(CASE)), 4)
        self.assertEqual(learns(CASE, (0, 2, 1), 0), (2,))

    def test_at_the_desk(self):
        desk = Desk()
        desk.say("case " + show_case(CASE).replace("\n", " / "))
        self.assertEqual([desk.say(row) for row in ("orders", "word 2", "left 2+", "left 2-")], ["6", "sometimes", "1", "5"])

    def test_in_a_live_house(self):
        house = House(HOUSE, RULE)
        house.do(("join", 0, P0))
        self.assertIs(house.look(0, 1), True)
        house.do(("shut", 1))
        self.assertEqual(outcome_rows(house.case(10)), [((False,), 5, (0, 2, 1)), ((True,), 1, (0, 1, 2))])


class MainProperty(unittest.TestCase):
    def test_all_orders_are_the_walks_of_the_web(self):
        chance = chance_of(31)
        for at in range(40):
            case = some_lively_case(chance) if at % 2 else some_case(chance)
            told = reckoning_of(case)
            rows = {place[:2]: place[2] * place[3] for place in places(case)}
            many = {}
            for one in told.told:
                self.assertEqual(walk(case, one.order), one.walk)
                for done, state, _ in one.places():
                    many[done, state] = many.get((done, state), 0) + 1
            self.assertEqual(rows, many)

    def test_an_order_shows_it_or_no_place_does(self):
        chance = chance_of(32)
        for at in range(100):
            case = some_lively_case(chance) if at % 2 else some_case(chance)
            known = some_known(chance, case)
            order, places_against = order_left(case, known), cover(case, known)
            self.assertEqual((order is None, places_against is None), (count_left(case, known) == 0, order is not None))
            if order is None:
                self.assertIs(cover_holds(case, known, places_against), True)
            else:
                self.assertTrue(set(known) <= set(outcomes(case, order)))


class Interface(unittest.TestCase):
    def check(self, home, function, row, module):
        name, *names = row.split(" ")
        self.assertEqual(list(inspect.signature(function).parameters), names, row)
        self.assertEqual((function.__name__, function.__module__), (name, module))
        self.assertIs(vars(home)[name], function)

    def test_each_function(self):
        for name, rows in INTERFACE.items():
            module = import_module("sawwhen." + name)
            for row in rows:
                self.check(module, vars(module)[row.split(" ")[0]], row, "sawwhen." + name)

    def test_each_class(self):
        for (name, class_name), rows in CLASSES.items():
            module = import_module("sawwhen." + name)
            home = vars(module)[class_name]
            self.assertEqual(home.__module__, "sawwhen." + name)
            for row in rows:
                self.check(home, vars(home)[row.split(" ")[0]], row, "sawwhen." + name)

    def test_default_values(self):
        self.assertEqual(inspect.signature(House).parameters["rule"].default, ("bar", "keeps", "now", True))
        self.assertEqual(inspect.signature(House.case).parameters["last"].default, 8)
        self.assertEqual(inspect.signature(House.case).parameters["last"].kind, inspect.Parameter.KEYWORD_ONLY)

    def test_each_error_is_one_of_the_program(self):
        for error in (BadDeeds(3), BadText(4)):
            self.assertIsInstance(error, SightError)
            self.assertIsInstance(error, ValueError)

    def test_equal_calls_return_equal_results(self):
        chance = chance_of(33)
        for _ in range(20):
            case = some_lively_case(chance)
            first = (places(case), outcome_rows(case), order_classes(case), show_case(case))
            self.assertEqual((places(case), outcome_rows(case), order_classes(case), show_case(case)), first)
            self.assertEqual(read_case(first[3]), case)


if __name__ == "__main__":
    unittest.main()
