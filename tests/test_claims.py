"""Points 26 and 27: claims, and where they hold."""

import unittest

from case_makers import BIG, EXAMPLE, P0, P1, at_once, case_of, in_a_row, looks_in, some_case, some_lively_case
from case_makers import wrong_cases, wrong_orders
from checks import Checks
from lot_makers import claim_of, count_claims, some_claim, some_people, some_watched_case, wrong_claims, wrong_people
from makers import chance_of, wrong_numbers
from reckon import reckoning_of, word_of
from reckon_more import holding, own_row, reached_from
from sawwhen.errors import BadCase, BadClaim, BadOrder, BadPeople, BadPerson
from sawwhen.knows import chain_to, claim_holds, claim_orders, claim_word, doubt, is_claim
from sawwhen.orders import is_order

JOIN0, LEAVE0, SHUT1, SEE, SEE1 = ("join", 0, P0), ("leave", 0, P0), ("shut", 1), ("look", 0, 1), ("look", 1, 1)
SAW = ("saw", 2)

# Person 0 joins; both look; what person 1 sees says whether folder 1 is shut.
SHARED = case_of(at_once(JOIN0, SHUT1, SEE, SEE1))

# Person 0 sees if behind the join; person 1 joins too, and sees only then.
HOUSE = (3, (), (False,), ((0, ("g", 0), "allow"), (0, ("g", 1), "bar")), ())


def order_claims(case):
    """What each look saw, and whether each person knows of each look."""
    claims = [("saw", number) for number in looks_in(case)]
    return claims + [("knows", person, claim) for person in range(case[0][0]) for claim in claims]


class IsClaim(Checks, unittest.TestCase):
    def told(self, case, thing, wanted):
        self.assertIs(is_claim(case, thing), wanted, (case, thing))

    def test_each_word(self):
        for claim in (SAW, ("not", SAW), ("and", SAW, SAW), ("knows", 0, SAW), ("knows", 1, SAW), ("all", (0,), SAW),
                      ("all", (0, 1), SAW), ("common", (1,), SAW), ("common", (0, 1), SAW), ("told", SAW, SAW)):
            self.told(EXAMPLE, claim, True)
            self.told(EXAMPLE, list(claim), False)
            self.assertIs(is_claim(case=EXAMPLE, thing=claim), True)
        self.told(EXAMPLE, ("not", ["saw", 2]), False)

    def test_wrong(self):
        for case in (EXAMPLE, SHARED):
            for thing in wrong_claims(case):
                self.told(case, thing, False)

    def test_no_look_and_no_event(self):
        for case in (case_of(()), case_of(at_once(JOIN0, SHUT1))):
            for thing in (("saw", 0), ("not", ("saw", 0)), ("saw", 1), (), None, ("knows", 0, ("saw", 1))):
                self.told(case, thing, False)

    def test_six_deep_and_seven(self):
        for deep in range(1, 9):
            claim = SAW
            for at in range(deep - 1):
                words = (("not", claim), ("knows", 0, claim), ("all", (0, 1), claim), ("common", (1,), claim),
                         ("told", SAW, claim), ("and", claim, SAW))
                claim = words[(at + deep) % 6]
            self.told(EXAMPLE, claim, deep <= 6)
        for deep in (6, 7):
            for many in range(deep, 2 ** deep):
                self.told(EXAMPLE, claim_of(2, deep, many), deep == 6 and many <= 60)

    def test_sixty_claims_and_sixty_one(self):
        for many in range(6, 64):
            claim = claim_of(2, 6, many)
            self.assertEqual(count_claims(claim), many)
            self.told(EXAMPLE, claim, many <= 60)
        full = SAW
        for word in ("and", "told", "and", "told", "and"):
            full = (word, full, full)
        self.assertEqual(count_claims(full), 63)
        self.told(EXAMPLE, full, False)

    def test_much_within_much(self):
        claim = SAW
        for _ in range(90):
            claim = ("and", claim, claim)
        self.told(EXAMPLE, claim, False)
        things = ()
        for _ in range(90):
            things = (things, things)
        self.told(EXAMPLE, things, False)
        self.told(EXAMPLE, ("not", things), False)

    def test_numbers_of_looks_and_people_of_the_case(self):
        for number in range(4):
            self.told(SHARED, ("saw", number), number >= 2)
        three = case_of(at_once(SEE), house=(3, (0,), (False, False), (), ()))
        for person in range(5):
            self.told(three, ("knows", person, ("saw", 0)), person < 3)
            self.told(EXAMPLE, ("knows", person, SAW), person < 2)


class Holds(Checks, unittest.TestCase):
    def hold(self, case, claim, orders):
        """The claim holds in these orders of the case alone."""
        told = reckoning_of(case)
        for one in told.told:
            self.check_answer(claim_holds, ("case", "order", "claim"), (case, one.order, claim), one.order in orders)
        word = word_of([one.order in orders for one in told.told])
        self.check_answer(claim_word, ("case", "claim"), (case, claim), word)
        self.check_orders(case, claim, orders)

    def check_orders(self, case, claim, orders):
        found = claim_orders(case, claim)
        self.assertIs(type(found), tuple)
        self.assertEqual(claim_orders(case=case, claim=claim), found)
        order, other = found
        total = len(reckoning_of(case).orders)
        self.assertEqual((order is None, other is None), (not orders, len(orders) == total))
        if order is not None:
            self.assertIn(order, orders)
        if other is not None:
            self.assertIs(is_order(case, other), True)
            self.assertNotIn(other, orders)

    def test_the_example(self):
        orders = reckoning_of(EXAMPLE).orders
        self.hold(EXAMPLE, SAW, [(0, 2, 1)])
        self.hold(EXAMPLE, ("not", SAW), [order for order in orders if order != (0, 2, 1)])
        self.hold(EXAMPLE, ("and", SAW, ("not", SAW)), [])
        self.hold(EXAMPLE, ("and", SAW, SAW), [(0, 2, 1)])
        self.hold(EXAMPLE, ("knows", 0, SAW), [(0, 2, 1)])
        self.hold(EXAMPLE, ("knows", 0, ("not", SAW)), [order for order in orders if order != (0, 2, 1)])
        # Person 1 has no looks, and so knows only what is so in all orders.
        self.hold(EXAMPLE, ("knows", 1, SAW), [])
        self.hold(EXAMPLE, ("knows", 1, ("not", SAW)), [])
        self.hold(EXAMPLE, ("knows", 1, ("not", ("and", SAW, ("not", SAW)))), orders)
        self.hold(EXAMPLE, ("knows", 0, ("not", ("knows", 1, SAW))), orders)

    def test_all_and_common(self):
        orders = reckoning_of(EXAMPLE).orders
        self.hold(EXAMPLE, ("all", (0,), SAW), [(0, 2, 1)])
        self.hold(EXAMPLE, ("common", (0,), SAW), [(0, 2, 1)])
        for word in ("all", "common"):
            self.hold(EXAMPLE, (word, (1,), SAW), [])
            self.hold(EXAMPLE, (word, (0, 1), SAW), [])
            self.hold(EXAMPLE, (word, (0, 1), ("not", ("knows", 1, SAW))), orders)

    def test_told(self):
        orders = reckoning_of(EXAMPLE).orders
        # If person 1 is told it, they know it.
        self.hold(EXAMPLE, ("told", SAW, ("knows", 1, SAW)), orders)
        self.hold(EXAMPLE, ("told", SAW, ("common", (0, 1), SAW)), orders)
        self.hold(EXAMPLE, ("told", ("not", SAW), SAW), [(0, 2, 1)])
        self.hold(EXAMPLE, ("told", SAW, ("not", SAW)), [order for order in orders if order != (0, 2, 1)])
        self.hold(EXAMPLE, ("told", ("and", SAW, ("not", SAW)), SAW), orders)

    def test_told_of_what_is_not_known_is_not_so_any_more(self):
        # "It saw, and person 1 does not know it" is true, but no more when it is told.
        claim = ("and", SAW, ("not", ("knows", 1, SAW)))
        self.hold(EXAMPLE, claim, [(0, 2, 1)])
        self.hold(EXAMPLE, ("told", claim, claim), [order for order in reckoning_of(EXAMPLE).orders if order != (0, 2, 1)])
        self.hold(EXAMPLE, ("told", claim, ("not", claim)), reckoning_of(EXAMPLE).orders)

    def test_told_within_told(self):
        case = case_of(at_once(JOIN0, SHUT1, SEE, SEE1))
        told = reckoning_of(case)
        for first in (("saw", 2), ("not", ("saw", 2)), ("saw", 3)):
            for second in (("saw", 3), ("not", ("saw", 3)), ("knows", 1, ("saw", 2)), ("not", ("knows", 1, ("saw", 2)))):
                for third in (("knows", 1, ("saw", 2)), ("common", (0, 1), ("saw", 3)), ("all", (0, 1), ("saw", 2))):
                    for claim in (("told", first, ("told", second, third)), ("told", ("told", first, second), third),
                                  ("knows", 0, ("told", second, third)), ("told", first, ("not", ("told", second, third)))):
                        self.hold(case, claim, [one.order for one in holding(told, claim, told.told)])

    def test_known_of_one_another(self):
        # Both look behind all deeds, so each knows what the other one saw; person 2 has no looks.
        case = case_of(((("join", 0, P0), 0, 5), (("join", 0, P1), 0, 5), (("shut", 0), 0, 5), (("look", 0, 0), 6, 6),
                        (("look", 1, 0), 6, 6)), house=HOUSE)
        both = ("and", ("saw", 3), ("saw", 4))
        orders = reckoning_of(case).orders
        self.hold(case, both, orders)
        for claim in (("common", (0, 1, 2), both), ("knows", 2, ("knows", 1, ("saw", 3))), ("all", (0, 2), both)):
            self.hold(case, claim, orders)

    def test_known_to_all_but_not_common(self):
        # The looks are by turns; all from some one on see, and each world is like the next one to one of the two.
        events = [(("allow", 0, ("g", 0)), 0, 20)] + [(("look", at % 2, 0), 2 * at + 2, 2 * at + 3) for at in range(4)]
        case = case_of(events, house=(2, (), (False,), (), ((0, P0), (0, P1))))
        chain = [[one.order for one in reckoning_of(case).told if sum(one.saw_row()) == many] for many in range(5)]

        def from_on(many):
            return [order for orders in chain[many:] for order in orders]

        last = ("saw", 4)
        self.hold(case, last, from_on(1))
        self.hold(case, ("knows", 0, last), from_on(2))
        self.hold(case, ("knows", 1, last), from_on(1))
        self.hold(case, ("all", (0, 1), last), from_on(2))
        self.hold(case, ("all", (0, 1), ("all", (0, 1), last)), from_on(3))
        self.hold(case, ("all", (0, 1), ("all", (0, 1), ("all", (0, 1), last))), from_on(4))
        self.hold(case, ("common", (0, 1), last), [])
        self.hold(case, ("common", (0,), last), from_on(2))
        self.hold(case, ("common", (1,), last), from_on(1))
        # If all are told that the first look did not see, that is common, and they are one step further.
        self.hold(case, ("told", ("not", ("saw", 1)), ("common", (0, 1), ("not", ("saw", 1)))), from_on(0))
        self.hold(case, ("told", ("saw", 3), ("common", (0, 1), last)), from_on(0))
        self.hold(case, ("told", ("saw", 3), ("all", (0, 1), ("saw", 2))), chain[0] + chain[1] + chain[4])

    def test_common_is_known_by_all_without_end(self):
        chance = chance_of(261)
        for _ in range(60):
            case = some_watched_case(chance)
            told = reckoning_of(case)
            claim, people = some_claim(chance, case, 2), some_people(chance, 3)
            common = {one.order for one in holding(told, ("common", people, claim), told.told)}
            self.hold(case, ("common", people, claim), common)
            self.hold(case, ("all", people, ("common", people, claim)), common)

    def test_against_all_orders(self):
        chance = chance_of(262)
        words = {}
        checked = 0
        while checked < 250:
            maker = chance.choice((some_watched_case, some_watched_case, some_lively_case, some_case))
            case = maker(chance)
            if looks_in(case):
                checked += 1
                told = reckoning_of(case)
                claim = some_claim(chance, case, chance.choice((2, 3, 4, 6)))
                if count_claims(claim) <= 60:
                    self.assertIs(is_claim(case, claim), True)
                    orders = {one.order for one in holding(told, claim, told.told)}
                    word = word_of([one.order in orders for one in told.told])
                    words[word] = words.get(word, 0) + 1
                    self.check_answer(claim_word, ("case", "claim"), (case, claim), word)
                    self.check_orders(case, claim, orders)
                    for order in chance.sample(told.orders, min(6, len(told.orders))):
                        wanted = order in orders
                        self.check_answer(claim_holds, ("case", "order", "claim"), (case, order, claim), wanted)
        self.assertGreater(words["sometimes"], 30)

    def test_as_many_events_as_can_be(self):
        chance = chance_of(263)
        for name in ("deeds and looks", "looks by login"):
            case = BIG[name]
            told = reckoning_of(case)
            for _ in range(4):
                claim = some_claim(chance, case, 4)
                orders = {one.order for one in holding(told, claim, told.told)}
                self.check_answer(claim_word, ("case", "claim"), (case, claim),
                                  word_of([one.order in orders for one in told.told]))
                self.check_orders(case, claim, orders)

    def test_sixty_claims(self):
        for case in (SHARED, BIG["looks by login"]):
            claim = claim_of(looks_in(case)[0], 6, 60)
            told = reckoning_of(case)
            orders = {one.order for one in holding(told, claim, told.told)}
            self.check_answer(claim_word, ("case", "claim"), (case, claim),
                              word_of([one.order in orders for one in told.told]))


class Doubt(Checks, unittest.TestCase):
    def check(self, case, order, person, claim):
        told = reckoning_of(case)
        found = doubt(case, order, person, claim)
        self.assertEqual(doubt(case=case, order=order, person=person, claim=claim), found)
        held = {one.order for one in holding(told, claim, told.told)}
        one = next(one for one in told.told if one.order == order)
        known = order in {one.order for one in holding(told, ("knows", person, claim), told.told)}
        if known:
            self.assertIsNone(found)
        else:
            self.assertIs(is_order(case, found), True)
            other = next(one for one in told.told if one.order == found)
            self.assertEqual(own_row(told, person, one), own_row(told, person, other))
            self.assertNotIn(found, held)
        return known

    def test_the_example(self):
        for order in reckoning_of(EXAMPLE).orders:
            self.assertEqual(self.check(EXAMPLE, order, 0, SAW), order == (0, 2, 1))
            self.assertEqual(self.check(EXAMPLE, order, 0, ("not", SAW)), order != (0, 2, 1))
            self.assertFalse(self.check(EXAMPLE, order, 1, SAW))
            self.assertFalse(self.check(EXAMPLE, order, 1, ("not", SAW)))
        self.assertEqual(doubt(EXAMPLE, (0, 1, 2), 1, ("not", SAW)), (0, 2, 1))

    def test_against_all_orders(self):
        chance = chance_of(271)
        known = 0
        for at in range(300):
            case = some_watched_case(chance) if at % 2 else some_lively_case(chance)
            if looks_in(case):
                order, person = chance.choice(reckoning_of(case).orders), chance.randrange(case[0][0])
                known += self.check(case, order, person, some_claim(chance, case, chance.choice((1, 2, 4))))
        self.assertGreater(known, 30)


class ChainTo(Checks, unittest.TestCase):
    def check(self, case, order, people, claim):
        """Return how long the chain is, None if there is none."""
        told = reckoning_of(case)
        chain = chain_to(case, order, people, claim)
        self.assertEqual(chain_to(case=case, order=order, people=people, claim=claim), chain)
        one = next(one for one in told.told if one.order == order)
        held = holding(told, claim, told.told)
        steps = [many for other, many in reached_from(told, people, told.told, one).items() if other not in held]
        self.assertEqual(chain is None, claim_holds(case, order, ("common", people, claim)))
        if not steps:
            self.assertIsNone(chain)
            return None
        self.assertIs(type(chain), list)
        self.assertEqual(len(chain), min(steps), (case, order, people, claim))
        for row in chain:
            self.assertIs(type(row), tuple)
            person, following = row
            self.assertIn(person, people)
            self.assertIs(is_order(case, following), True)
            other = next(one for one in told.told if one.order == following)
            self.assertEqual(own_row(told, person, one), own_row(told, person, other))
            one = other
        self.assertNotIn(one, held)
        return len(chain)

    def test_the_example(self):
        for order in reckoning_of(EXAMPLE).orders:
            sees = order == (0, 2, 1)
            self.assertEqual(self.check(EXAMPLE, order, (0,), SAW), None if sees else 0)
            self.assertEqual(self.check(EXAMPLE, order, (1,), SAW), 1 if sees else 0)
            self.assertEqual(self.check(EXAMPLE, order, (0, 1), SAW), 1 if sees else 0)
        self.assertEqual(chain_to(EXAMPLE, (0, 1, 2), (0, 1), SAW), [])
        self.assertEqual(chain_to(EXAMPLE, (0, 1, 2), (1,), ("not", SAW)), [(1, (0, 2, 1))])

    def test_one_step_after_another(self):
        # A join that was some time, and looks of both, by turns: each look can tell of the one behind it alone.
        events = [(JOIN0, 0, 20), (("shut", 0), 0, 20), (SEE, 3, 4), (SEE1, 4, 5), (SEE, 5, 6), (SEE1, 6, 7)]
        case = case_of(events)
        lengths = set()
        for order in reckoning_of(case).orders[::5]:
            for people in ((0,), (1,), (0, 1)):
                for number in looks_in(case):
                    lengths.add(self.check(case, order, people, ("saw", number)))
        self.assertTrue({None, 0, 1} <= lengths, lengths)

    def test_against_all_orders(self):
        chance = chance_of(272)
        lengths = {}
        for _ in range(600):
            case = some_watched_case(chance) if chance.random() < 0.8 else some_lively_case(chance, share=0.6)
            if looks_in(case):
                order, people = chance.choice(reckoning_of(case).orders), some_people(chance, case[0][0])
                claim = some_claim(chance, case, chance.choice((1, 2, 3)))
                length = self.check(case, order, people, claim)
                lengths[length] = lengths.get(length, 0) + 1
        self.assertTrue({None, 0, 1, 2} <= set(lengths), lengths)


class Wrong(Checks, unittest.TestCase):
    ORDER = (0, 1, 2)
    CALLS = [(claim_holds, (ORDER, SAW)), (claim_word, (SAW,)), (claim_orders, (SAW,)), (doubt, (ORDER, 0, SAW)),
             (chain_to, (ORDER, (0, 1), SAW))]
    ERRORS = {claim_holds: (BadOrder, BadClaim), claim_word: (BadClaim,), claim_orders: (BadClaim,),
              doubt: (BadOrder, BadPerson, BadClaim), chain_to: (BadOrder, BadPeople, BadClaim)}

    def test_cases(self):
        for function, more in self.CALLS + [(is_claim, (SAW,))]:
            self.check_wrong(function, (None,) + more, 0, BadCase, wrong_cases())

    def test_each_argument(self):
        wrong = {BadOrder: wrong_orders(EXAMPLE), BadClaim: wrong_claims(EXAMPLE), BadPerson: wrong_numbers(2),
                 BadPeople: wrong_people(2)}
        for function, more in self.CALLS:
            for at, error in enumerate(self.ERRORS[function]):
                self.check_wrong(function, (EXAMPLE,) + more, at + 1, error, wrong[error])

    def test_claims_of_a_case_without_looks(self):
        case = case_of(in_a_row(JOIN0, SHUT1))
        for claim in (("saw", 0), ("saw", 1), ("not", ("saw", 0)), None, ()):
            self.check_wrong(claim_word, (case, None), 1, BadClaim, [claim])
            self.check_wrong(chain_to, (case, (0, 1), (0,), None), 3, BadClaim, [claim])

    def test_the_first_wrong_argument_tells(self):
        for function, more in self.CALLS:
            self.check_first_wrong(function, (EXAMPLE,) + more, (BadCase,) + self.ERRORS[function])
        self.check_first_wrong(is_claim, (EXAMPLE, None), (BadCase, None))


if __name__ == "__main__":
    unittest.main()
