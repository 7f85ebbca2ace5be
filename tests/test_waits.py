"""Cases of as many orders as can be are answered in a time that a caller can wait for."""

import unittest
from contextlib import suppress
from time import perf_counter

from case_makers import BIG, looks_in
from lot_makers import all_pairs, claim_of
from sawwhen.desk import Desk
from sawwhen.errors import BadText
from sawwhen.held import held_sure, least_lots, orders_against
from sawwhen.idle import idle_events, least_alike, needed_pairs, orders_alike, parting_order, swap_pairs, swap_path
from sawwhen.known import asked_next, bounds_left, count_ahead, count_left, cover, cover_holds, least_clashes
from sawwhen.known import order_left, pairs_left, state_left, sure_sights, word_left
from sawwhen.looks import count_seen, look_orders, look_word, longest_sights, outcome_rows, outcomes
from sawwhen.looks import sight_orders, sight_word
from sawwhen.knows import chain_to, claim_holds, claim_orders, claim_word, doubt, learns, tell
from sawwhen.live import House
from sawwhen.orders import count_orders, is_order, places, sure_pairs, walk
from sawwhen.rules import rule_words, rules_alike, safest_rules
from sawwhen.texts import read_case, show_case

# All calls for a case take a small part of this; if each went through all orders they would take several times as long.
SECONDS = 10


def ask_all(case):
    """Call each function once."""
    order = tuple(range(8))
    count_orders(case), sure_pairs(case), is_order(case, order), walk(case, order), outcomes(case, order)
    outcome_rows(case), sight_word(case, 0, 0), sight_orders(case, 0, 0), longest_sights(case, 0, 0)
    for known in ((), tuple((number, True) for number in looks_in(case))):
        count_left(case, known), count_ahead(case, known, 0, 7), order_left(case, known), state_left(case, known)
        cover(case, known), least_clashes(case, known)
        cover_holds(case, known, [place[:2] for place in places(case)])
    pairs_left(case, ()), bounds_left(case, ()), asked_next(case, ()), sure_sights(case, ())
    for number in looks_in(case)[:1]:
        look_word(case, number), look_orders(case, number), count_seen(case, number), word_left(case, (), number)


def ask_of_lots(case):
    """Call each function of lots, idle deeds, alike orders and claims once."""
    order = tuple(range(8))
    last = order[::-1]
    wishes = tuple(outcomes(case, order))
    lot = tuple(pair for pair in all_pairs(case) if pair[0] < pair[1])
    held_sure(case, wishes, lot), orders_against(case, wishes, lot), orders_against(case, (), lot[:6])
    least_lots(case, wishes, [(at, at + 1) for at in range(6)])
    idle_events(case), parting_order(case, 0), swap_pairs(case), needed_pairs(case)
    orders_alike(case, order, last), swap_path(case, order, last), least_alike(case, last)
    for number in looks_in(case)[:1]:
        for claim in (claim_of(number, 6, 60), common_claim(number)):
            claim_holds(case, order, claim), claim_word(case, claim), claim_orders(case, claim)
            doubt(case, order, 0, claim), chain_to(case, order, (0, 1), claim)
        for known in learns(case, order, 0):
            tell(case, order, 0, known)


def common_claim(number):
    """A claim of claims that are common, six deep."""
    claim = ("saw", number)
    for _ in range(3):
        claim = ("told", ("common", (0, 1), ("saw", number)), claim)
    return ("not", claim)


def ask_of_rules_and_texts(case):
    """Call each function of rules, live houses, texts and the desk, with as much as can be."""
    rules_alike(case, ("near", "drops", "login", False)), rule_words(case)
    safest_rules(case, tuple((number, True) for number in looks_in(case)))
    house = House(case[0], case[1])
    whats = [what for what, _, _ in case[2]] * 25
    for what in whats:
        if what[0] == "look":
            house.look(what[1], what[2])
        else:
            house.do(what)
    house.with_rule(("near", "drops", "login", False)), house.copy(), house == house.copy(), house[0], list(house)
    desk = Desk()
    desk.say("case " + show_case(house.case(30)).replace("\n", " / "))
    for row in ("orders", "left", "idle", "show", "who 0", "why 0 0", "look 0 0", "undo"):
        desk.say(row)
    for text in ("\n" * 10000, "bar keeps now deep\npeople 2" + "\nshut 0 @ 0 9" * 700):
        with suppress(BadText):
            read_case(text)


class Waits(unittest.TestCase):
    def test_each_case_is_answered_in_time(self):
        for name, case in BIG.items():
            begun = perf_counter()
            ask_all(case)
            self.assertLess(perf_counter() - begun, SECONDS, name)

    def test_what_is_asked_of_lots_and_claims(self):
        for name, case in BIG.items():
            begun = perf_counter()
            ask_of_lots(case)
            self.assertLess(perf_counter() - begun, SECONDS, name)

    def test_what_is_asked_of_rules_and_texts(self):
        for name, case in BIG.items():
            begun = perf_counter()
            ask_of_rules_and_texts(case)
            self.assertLess(perf_counter() - begun, SECONDS, name)


if __name__ == "__main__":
    unittest.main()
