"""Cases of as many orders as can be are answered in a time that a caller can wait for."""

import unittest
from time import perf_counter

from case_makers import BIG, looks_in
from sawwhen.known import asked_next, bounds_left, count_ahead, count_left, cover, cover_holds, least_clashes
from sawwhen.known import order_left, pairs_left, state_left, sure_sights, word_left
from sawwhen.looks import count_seen, look_orders, look_word, longest_sights, outcome_rows, outcomes
from sawwhen.looks import sight_orders, sight_word
from sawwhen.orders import count_orders, is_order, places, sure_pairs, walk

# All calls for a case take a small part of this; if each went through all orders they would take several times as long.
SECONDS = 10


def ask_all(case):
    """Call each function once."""
    order = tuple(range(8))
    count_orders(case), sure_pairs(case), is_order(case, order), walk(case, order), outcomes(case, order)
    outcome_rows(case), sight_word(case, 0, 0), sight_orders(case, 0, 0), longest_sights(case, 0, 0)
    for known in ((), tuple((number, True) for number in looks_in(case))):
        count_left(case, known), count_ahead(case, known, 0, 7), order_left(case, known), state_left(case, known)
        cover(case, known), least_clashes(case, known)
        cover_holds(case, known, [place[:2] for place in places(case)])
    pairs_left(case, ()), bounds_left(case, ()), asked_next(case, ()), sure_sights(case, ())
    for number in looks_in(case)[:1]:
        look_word(case, number), look_orders(case, number), count_seen(case, number), word_left(case, (), number)


class Waits(unittest.TestCase):
    def test_each_case_is_answered_in_time(self):
        for name, case in BIG.items():
            begun = perf_counter()
            ask_all(case)
            self.assertLess(perf_counter() - begun, SECONDS, name)


if __name__ == "__main__":
    unittest.main()
