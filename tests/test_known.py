"""Points 17 and 19: what known looks leave, and what they tell."""

import unittest
from itertools import permutations, product

from case_makers import BIG, EXAMPLE, P0, P1, at_once, case_of, in_a_row, known_of, looks_in, some_case, some_known
from case_makers import wrong_cases, wrong_events_of, wrong_knowns, wrong_look_numbers
from checks import Checks
from makers import RULE, RULES, SMALL, chance_of, with_part
from reckon import Reckoning, moments_of, parts_of, reckoning_of, word_of
from sawwhen.deeds import after_deeds
from sawwhen.errors import BadCase, BadClash, BadEvent, BadKnown, BadLook
from sawwhen.houses import first_state
from sawwhen.known import asked_next, bounds_left, count_ahead, count_left, cover, cover_holds, least_clashes
from sawwhen.known import order_left, pairs_left, state_left, sure_sights, word_left
from sawwhen.looks import look_word
from sawwhen.orders import count_orders, is_order, sure_pairs

JOIN0, LEAVE0, SHUT1, SEE = ("join", 0, P0), ("leave", 0, P0), ("shut", 1), ("look", 0, 1)
SEE1 = ("look", 1, 1)
NAMES = ("case", "known", "number", "other")

# Four looks, the first and the last one ahead of all deeds and behind them, and four orders.
ROW = case_of(((SEE, 0, 0), (JOIN0, 1, 5), (SEE, 1, 5), (SHUT1, 7, 9), (SEE, 7, 9), (("look", 1, 0), 10, 10)))

# Two looks and two deeds of one moment.
KNOTS = case_of(at_once(SEE, JOIN0, SEE, LEAVE0))

CALLS = [(count_left, ()), (count_ahead, (0, 1)), (order_left, ()), (pairs_left, ()), (word_left, (0,)),
         (state_left, ()), (bounds_left, ()), (cover, ()), (cover_holds, ([],)), (least_clashes, ()), (asked_next, ()),
         (sure_sights, ())]
CLASHING = [(pairs_left, ()), (word_left, (0,)), (bounds_left, ()), (asked_next, ()), (sure_sights, ())]


class Left(Checks, unittest.TestCase):
    def left(self, case, known, count):
        """So many orders are left, and the one that is given is one of them."""
        self.check_answer(count_left, NAMES, (case, known), count)
        order = order_left(case, known)
        self.assertEqual(order_left(case=case, known=known), order)
        if count == 0:
            self.assertIsNone(order)
        else:
            self.assertIs(type(order), tuple)
            self.assertIs(is_order(case, order), True)
        return order

    def words(self, case, known, wanted):
        for number, word in zip(looks_in(case), wanted):
            self.check_answer(word_left, NAMES, (case, known, number), word)

    def test_the_example(self):
        self.assertEqual(self.left(EXAMPLE, ((2, True),), 1), (0, 2, 1))
        self.check_answer(pairs_left, NAMES, (EXAMPLE, ((2, True),)), [(0, 1), (0, 2), (2, 1)])
        self.check_answer(pairs_left, NAMES, (EXAMPLE, ((2, False),)), [])
        self.check_answer(pairs_left, NAMES, (EXAMPLE, ()), [])
        self.left(EXAMPLE, ((2, False),), 5)
        self.left(EXAMPLE, (), 6)
        self.words(EXAMPLE, (), ["sometimes"])
        self.words(EXAMPLE, ((2, True),), ["always"])
        self.words(EXAMPLE, ((2, False),), ["never"])
        for saw, count in ((True, 1), (False, 2)):
            self.check_answer(count_ahead, NAMES, (EXAMPLE, ((2, saw),), 0, 1), count)
        self.check_answer(count_ahead, NAMES, (EXAMPLE, ((2, False),), 1, 0), 3)

    def test_the_bounds_of_the_example(self):
        self.check_answer(bounds_left, NAMES, (EXAMPLE, ((2, True),)), [(10, 30), (25, 40), (25, 35)])
        self.check_answer(bounds_left, NAMES, (EXAMPLE, ()), [(10, 30), (20, 40), (25, 35)])
        self.check_answer(bounds_left, NAMES, (EXAMPLE, ((2, False),)), [(10, 30), (20, 40), (25, 35)])

    def test_the_states_of_the_example(self):
        both = after_deeds(SMALL, RULE, [JOIN0, SHUT1])
        for known in ((), ((2, True),), ((2, False),)):
            self.check_answer(state_left, NAMES, (EXAMPLE, known), [both])

    def test_no_event(self):
        case = case_of(())
        self.assertEqual(self.left(case, (), 1), ())
        for function, wanted in ((pairs_left, []), (state_left, [first_state(SMALL, RULE)]), (bounds_left, []),
                                 (cover, None), (least_clashes, []), (asked_next, []), (sure_sights, [(1, 0), (1, 1)])):
            self.check_answer(function, NAMES, (case, ()), wanted)

    def test_one_event(self):
        case = case_of(((SEE1, 0, 99),))
        for known, count in (((), 1), (((0, True),), 1), (((0, False),), 0)):
            self.left(case, known, count)
        self.check_answer(bounds_left, NAMES, (case, ((0, True),)), [(0, 99)])
        self.check_answer(state_left, NAMES, (case, ((0, False),)), [])
        self.check_answer(least_clashes, NAMES, (case, ((0, False),)), [((0, False),)])

    def test_no_known_looks_leave_all(self):
        chance = chance_of(171)
        for case in [some_case(chance) for _ in range(50)] + list(BIG.values()) + [ROW, KNOTS]:
            self.left(case, (), count_orders(case))
            self.assertEqual(pairs_left(case, ()), sure_pairs(case))
            self.words(case, (), [look_word(case, number) for number in looks_in(case)])
            self.assertIsNone(cover(case, ()))
            self.assertEqual(least_clashes(case, ()), [])

    def test_all_looks_known(self):
        self.left(ROW, known_of(ROW, False, True, True, True), 1)
        self.left(ROW, known_of(ROW, False, False, True, True), 1)
        self.left(ROW, known_of(ROW, True, True, True, True), 0)
        self.check_answer(pairs_left, NAMES, (ROW, known_of(ROW, False, True, False, True)),
                          [(number, other) for number in (0, 1, 2, 3, 4, 5) for other in range(number + 1, 6)])
        self.check_answer(asked_next, NAMES, (ROW, known_of(ROW, False, True, True, True)), [])
        self.words(ROW, known_of(ROW, False, True, True, True), ["never", "always", "always", "always"])

    def test_a_look_tells_about_others(self):
        case = case_of(((JOIN0, 5, 5), (SEE, 5, 5), (SEE, 6, 6), (SHUT1, 0, 99)))
        self.words(case, (), ["sometimes", "sometimes"])
        self.words(case, ((1, True),), ["always", "sometimes"])
        self.words(case, ((2, True),), ["sometimes", "always"])
        self.words(case, ((1, False),), ["never", "sometimes"])

    def test_bounds_by_the_neighbours(self):
        # By the look the join was ahead of it, and so no later than it can have been.
        case = case_of(((JOIN0, 0, 99), (SEE, 40, 60)))
        self.check_answer(bounds_left, NAMES, (case, ()), [(0, 99), (40, 60)])
        self.check_answer(bounds_left, NAMES, (case, ((1, True),)), [(0, 60), (40, 60)])
        self.check_answer(bounds_left, NAMES, (case, ((1, False),)), [(40, 99), (40, 60)])
        case = case_of(((JOIN0, 40, 60), (SEE, 0, 99)))
        self.check_answer(bounds_left, NAMES, (case, ((1, True),)), [(40, 60), (40, 99)])
        self.check_answer(bounds_left, NAMES, (case, ((1, False),)), [(40, 60), (0, 60)])

    def test_a_clash(self):
        case = case_of(((JOIN0, 0, 9), (SEE, 1, 1), (SEE, 5, 5)))
        for case, known in ((ROW, ((0, True),)), (ROW, ((5, False),)), (case, ((1, True), (2, False)))):
            self.left(case, known, 0)
            self.check_answer(state_left, NAMES, (case, known), [])
            self.check_answer(count_ahead, NAMES, (case, known, 0, 1), 0)
            self.assertEqual(len(least_clashes(case, known)), 1)
            self.assertIsInstance(cover(case, known), list)
            for function, more in CLASHING:
                numbers = (looks_in(case)[0],) if more else ()
                self.check_wrong(function, (case, None) + numbers, 1, BadClash, [known])

    def test_against_all_orders(self):
        chance = chance_of(172)
        for _ in range(250):
            case = some_case(chance)
            self.hold_against_all_orders(case, some_known(chance, case))

    def test_as_many_events_as_can_be(self):
        chance = chance_of(173)
        for case in BIG.values():
            for known in {(), some_known(chance, case), most_seen(case)[:2], most_seen(case)}:
                self.hold_against_all_orders(case, known, pairs=3)

    def hold_against_all_orders(self, case, known, pairs=None):
        told = reckoning_of(case)
        left = told.left(known)
        order = self.left(case, known, len(left))
        self.assertIn(order, [one.order for one in left] or [None])
        ends = {one.walk[-1] for one in left}
        self.check_answer(state_left, NAMES, (case, known), sorted(ends))
        for number, other in told.pairs()[:pairs]:
            count = sum(one.ahead(number, other) for one in left)
            self.check_answer(count_ahead, NAMES, (case, known, number, other), count)
        if not left:
            for function, _ in CLASHING:
                if function != word_left:
                    self.check_wrong(function, (case, known), 1, BadClash, [known])
            for number in told.looks:
                self.check_wrong(word_left, (case, known, number), 1, BadClash, [known])
            return
        always = [pair for pair in told.pairs() if all(one.ahead(*pair) for one in left)]
        self.check_answer(pairs_left, NAMES, (case, known), always)
        self.words(case, known, [word_of([one.outcomes[number] for one in left]) for number in told.looks])
        self.check_answer(bounds_left, NAMES, (case, known), told.bounds(known))
        sure = [spot for spot in told.spots() if all(one.sees_at_some_moment(spot) for one in left)]
        self.check_answer(sure_sights, NAMES, (case, known), sure)

    def test_bounds_by_all_moments(self):
        chance = chance_of(174)
        for _ in range(60):
            case = some_case(chance, 4)
            bounds = [(early % 7, early % 7 + (late - early) % 5) for _, early, late in case[2]]
            case = with_part(case, 2, tuple((event[0],) + bound for event, bound in zip(case[2], bounds)))
            known = some_known(chance, case)
            orders = [told.order for told in Reckoning(case).left(known)]
            found = []
            for moments in product(*[range(early, late + 1) for early, late in bounds]):
                if any(ascends([moments[number] for number in order]) for order in orders):
                    found.append(moments)
            if orders:
                wanted = [(min(row), max(row)) for row in zip(*found)]
                self.assertEqual(bounds_left(case, known), wanted, (case, known))

    def test_a_known_look_that_is_always_so_leaves_all(self):
        chance = chance_of(175)
        for _ in range(100):
            case = some_case(chance, share=0.6)
            for number in looks_in(case):
                seen, unseen = count_left(case, ((number, True),)), count_left(case, ((number, False),))
                self.assertEqual(seen + unseen, count_orders(case))
                word = "never" if seen == 0 else "always" if unseen == 0 else "sometimes"
                self.assertEqual(look_word(case, number), word)

    def test_wrong_events(self):
        for case in (EXAMPLE, ROW, KNOTS):
            wrong = wrong_events_of(case)
            self.check_wrong(count_ahead, (case, (), 0, 1), 2, BadEvent, wrong + [1])
            self.check_wrong(count_ahead, (case, (), 0, 1), 3, BadEvent, wrong + [0])
        for number in range(3):
            self.check_wrong(count_ahead, (EXAMPLE, (), number, number), 0, BadEvent, [EXAMPLE])
        self.check_wrong(count_ahead, (case_of(()), (), 0, 1), 0, BadEvent, [case_of(())])

    def test_wrong_looks(self):
        for case in (EXAMPLE, ROW, KNOTS):
            self.check_wrong(word_left, (case, (), looks_in(case)[0]), 2, BadLook, wrong_look_numbers(case))


class LeastClashes(Checks, unittest.TestCase):
    def told(self, case, known, wanted):
        self.check_answer(least_clashes, NAMES, (case, known), wanted)

    def test_one_look_that_cannot_be(self):
        self.told(EXAMPLE, ((2, True),), [])
        self.told(ROW, ((0, True),), [((0, True),)])
        self.told(ROW, ((0, False), (2, True), (5, False)), [((5, False),)])
        self.told(ROW, ((0, True), (2, True), (5, False)), [((0, True),), ((5, False),)])

    def test_two_looks_that_cannot_be_together(self):
        case = case_of(((JOIN0, 5, 5), (SEE, 4, 5), (SEE, 5, 5), (SEE, 6, 6)))
        self.told(case, ((1, True), (3, False)), [((3, False),)])
        case = case_of(((JOIN0, 0, 9), (SEE, 1, 1), (SEE, 5, 5), (SEE, 9, 9)))
        self.told(case, ((1, True), (2, False), (3, False)), [((1, True), (2, False)), ((1, True), (3, False))])
        self.told(case, ((1, True), (2, False)), [((1, True), (2, False))])
        self.told(case, ((1, False), (2, True), (3, False)), [((2, True), (3, False))])
        self.told(case, ((1, False), (2, False), (3, False)), [])

    def test_parts_of_unlike_lengths(self):
        case = case_of(((JOIN0, 0, 9), (SEE, 1, 1), (SEE, 5, 5), (SEE1, 9, 9)))
        self.told(case, ((1, True), (2, False), (3, False)), [((1, True), (2, False)), ((3, False),)])
        case = case_of(((JOIN0, 0, 9), (SEE, 1, 1), (SEE1, 5, 5), (SEE, 9, 9)))
        self.told(case, ((1, True), (2, False), (3, False)), [((1, True), (3, False)), ((2, False),)])

    def test_three_looks_that_cannot_be_together(self):
        # Who joins once and leaves once is not in, then out, then in again; but two of the three can be.
        case = case_of(((JOIN0, 0, 10), (LEAVE0, 0, 10), (SEE, 1, 1), (SEE, 5, 5), (SEE, 9, 9)))
        known = ((2, True), (3, False), (4, True))
        self.told(case, known, [known])
        self.told(case, known[:2], [])
        self.told(case, known[1:], [])
        self.told(case, known[::2], [])
        self.told(case, with_part(known, 1, (3, True)), [])

    def test_many_parts(self):
        looks = ((SEE, 1, 1), (SEE, 3, 3), (SEE, 5, 5), (SEE, 7, 7), (SEE, 9, 9), (SEE1, 1, 1))
        case = case_of(((JOIN0, 0, 10), (LEAVE0, 0, 10)) + looks)
        known = ((2, True), (3, False), (4, True), (5, False), (6, True), (7, False))
        first, second, third, fourth, fifth, last = known
        self.told(case, known, [(first, second, third), (first, second, fifth), (first, fourth, fifth),
                                (third, fourth, fifth), (last,)])

    def test_against_all_orders(self):
        chance = chance_of(191)
        cases = [some_case(chance, share=chance.choice((0.5, 0.8))) for _ in range(200)]
        cases += [some_case(chance, many=6, share=0.6) for _ in range(15)]
        clashes = 0
        for case in cases + list(BIG.values()):
            told = reckoning_of(case)
            saws = {one.saw_row() for one in told.told}
            for _ in range(3):
                known = tuple((number, chance.random() < 0.5) for number in told.looks if chance.random() < 0.9)
                wanted = clashes_of(told.looks, saws, known)
                clashes += len(wanted)
                self.told(case, known, wanted)
        self.assertGreater(clashes, 100)

    def test_each_part_is_needed(self):
        chance = chance_of(192)
        lengths = set()
        for _ in range(200):
            events = [(JOIN0, 0, 99), (LEAVE0, 0, 99), *in_a_row(*[SEE] * 5)]
            chance.shuffle(events)
            case = case_of(events, chance.choice(RULES))
            known = tuple((number, chance.random() < 0.5) for number in looks_in(case))
            found = least_clashes(case, known)
            lengths |= {len(part) for part in found}
            for part in found:
                self.assertEqual(count_left(case, part), 0)
                for look in part:
                    self.assertGreater(count_left(case, tuple(one for one in part if one != look)), 0)
            self.assertEqual(found == [], count_left(case, known) > 0)
        self.assertEqual(lengths, {1, 3})


class AskedNext(Checks, unittest.TestCase):
    def told(self, case, known, wanted):
        self.check_answer(asked_next, NAMES, (case, known), wanted)

    def test_the_example(self):
        self.told(EXAMPLE, (), [2])
        self.told(EXAMPLE, ((2, True),), [])

    def test_the_one_that_halves_them(self):
        case = case_of(((JOIN0, 5, 5), (SEE, 0, 0), (SEE, 5, 5), (SEE1, 9, 9)))
        self.told(case, (), [2])
        self.told(case, ((1, False),), [2])
        self.told(case, ((2, True),), [1, 3])
        self.told(case, ((1, False), (2, False)), [3])

    def test_more_than_one(self):
        case = case_of(at_once(JOIN0, SEE, SEE))
        self.told(case, (), [1, 2])
        self.told(case, ((1, True),), [2])

    def test_against_all_orders(self):
        chance = chance_of(193)
        for case in [some_case(chance, share=0.6) for _ in range(200)] + list(BIG.values()):
            told = reckoning_of(case)
            for known in {(), some_known(chance, case), most_seen(case)[:1]}:
                left = told.left(known)
                if left:
                    self.told(case, known, best_of(told, known, left))


class SureSights(Checks, unittest.TestCase):
    def told(self, case, known, wanted):
        self.check_answer(sure_sights, NAMES, (case, known), wanted)

    def test_the_example(self):
        self.told(EXAMPLE, (), [(0, 0), (1, 0), (1, 1)])
        self.told(EXAMPLE, ((2, False),), [(0, 0), (1, 0), (1, 1)])
        self.told(EXAMPLE, ((2, True),), [(0, 0), (0, 1), (1, 0), (1, 1)])

    def test_some_moment_is_enough(self):
        self.told(case_of(in_a_row(JOIN0, LEAVE0)), (), [(0, 0), (0, 1), (1, 0), (1, 1)])
        self.told(case_of(at_once(JOIN0, ("bar", 0, P0))), (), [(1, 0), (1, 1)])
        self.told(case_of(at_once(("leave", 0, P1))), (), [(1, 0), (1, 1)])


class Wrong(Checks, unittest.TestCase):
    def test_cases(self):
        wrong = wrong_cases()
        for function, more in CALLS:
            self.check_wrong(function, (None, ()) + more, 0, BadCase, wrong)

    def test_known_looks(self):
        for function, more in CALLS:
            for case in (ROW, KNOTS):
                self.check_wrong(function, (case, None) + more, 1, BadKnown, wrong_knowns(case))
            for thing in (((0, True),), ((1, False),), (None,), [], None):
                self.check_wrong(function, (case_of(at_once(JOIN0, LEAVE0)), None) + more, 1, BadKnown, [thing])
                self.check_wrong(function, (case_of(()), None) + more, 1, BadKnown, [thing])

    def test_the_first_wrong_argument_tells(self):
        for function, more in CALLS:
            errors = {count_ahead: (BadEvent, BadEvent), word_left: (BadLook,), cover_holds: (None,)}.get(function, ())
            self.check_first_wrong(function, (ROW, ()) + more, (BadCase, BadKnown) + errors)

    def test_what_else_is_wrong_tells_before_a_clash(self):
        clash = ((0, True),)
        self.check_first_wrong(word_left, (ROW, ((0, False),), 0), (BadCase, BadKnown, BadLook))
        self.check_wrong(word_left, (ROW, clash, 0), 2, BadLook, wrong_look_numbers(ROW))
        self.check_wrong(word_left, (ROW, clash, 0), 2, BadClash, looks_in(ROW))
        self.check_wrong(count_ahead, (ROW, clash, 0, 1), 2, BadEvent, wrong_events_of(ROW) + [1])
        for function, more in CLASHING:
            self.check_wrong(function, (ROW, clash) + more, 1, BadKnown, wrong_knowns(ROW))
            self.check_wrong(function, (ROW, None) + more, 1, BadClash, [clash, ((5, False),), ((0, True), (2, True))])
        # Also where all looks are known.
        self.check_wrong(asked_next, (ROW, None), 1, BadClash, [((0, True), (2, True), (4, True), (5, True))])


def ascends(row):
    return all(one <= other for one, other in zip(row, row[1:]))


def most_seen(case):
    """Known looks that some order keeps: those of its first order by numbers that is an order."""
    for order in permutations(range(len(case[2]))):
        if moments_of(case[2], order) is not None:
            break
    return tuple(sorted(next(told for told in reckoning_of(case).told if told.order == order).outcomes.items()))


def clashes_of(looks, saws, known):
    """The least parts of known looks that none of the rows keeps."""
    clashing = []
    for part in parts_of(known):
        if not any(all(row[looks.index(number)] is saw for number, saw in part) for row in saws):
            clashing.append(part)
    return sorted(part for part in clashing if not any(set(other) < set(part) for other in clashing))


def best_of(told, known, left):
    """The looks, not known, whose outcome leaves the fewest at worst."""
    worst = {}
    for number in told.looks:
        if number not in dict(known):
            seen = sum(one.outcomes[number] for one in left)
            worst[number] = max(seen, len(left) - seen)
    return [number for number in worst if worst[number] == min(worst.values())]


if __name__ == "__main__":
    unittest.main()
