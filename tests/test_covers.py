"""Point 18: covers, by which known looks leave no order."""

import unittest

from case_makers import BIG, EXAMPLE, P0, at_once, case_of, looks_in, some_case, some_known
from checks import Checks
from makers import RULE, SMALL, WRONG, chance_of, with_part, wrong_numbers, wrong_rows, wrong_states
from reckon import is_cover, reckoning_of
from sawwhen.deeds import after_deeds
from sawwhen.houses import first_state
from sawwhen.known import count_left, cover, cover_holds, word_left
from sawwhen.orders import places

JOIN0, SHUT1, SEE = ("join", 0, P0), ("shut", 1), ("look", 0, 1)
NAMES = ("case", "known", "thing")

# A house of two people and three folders, as that of the wrong states; a look that is ahead of what lets it see.
HOUSE = (2, (0, 0), (False,) * 3, (), ())
CASE = case_of(((("look", 0, 0), 0, 5), (("allow", 0, P0), 6, 9), (("shut", 1), 0, 9)), house=HOUSE)
KNOWN = ((0, True),)


def bare(case):
    return [place[:2] for place in places(case)]


class Covers(Checks, unittest.TestCase):
    def holds(self, case, known, thing, wanted=True):
        self.check_answer(cover_holds, NAMES, (case, known, thing), wanted)

    def fails(self, case, known, things):
        for thing in things:
            self.assertIs(cover_holds(case, known, thing), False, (case, known, thing))

    def test_orders_are_left(self):
        for known in ((), ((2, True),), ((2, False),)):
            self.check_answer(cover, NAMES[:2], (EXAMPLE, known), None)
            self.fails(EXAMPLE, known, [[], bare(EXAMPLE), bare(EXAMPLE)[:1], bare(EXAMPLE)[:-1]])

    def test_one_look_that_cannot_be(self):
        case = case_of(((SEE, 0, 5), (JOIN0, 6, 9), (SHUT1, 6, 9)))
        first = ((), first_state(SMALL, RULE))
        self.check_answer(cover, NAMES[:2], (case, ((0, True),)), [first])
        self.holds(case, ((0, True),), [first])
        self.holds(case, ((0, False),), [first], False)

    def test_a_cover_of_several_places(self):
        first, shut = first_state(HOUSE, RULE), after_deeds(HOUSE, RULE, [SHUT1])
        wanted = [((), first), ((2,), shut)]
        self.check_answer(cover, NAMES[:2], (CASE, KNOWN), wanted)
        self.holds(CASE, KNOWN, wanted)
        self.holds(CASE, KNOWN, wanted[::-1])
        self.holds(CASE, KNOWN, wanted * 3)
        self.fails(CASE, KNOWN, [wanted[:1], wanted[1:], []])

    def test_a_place_too_many(self):
        wanted = cover(CASE, KNOWN)
        shut = after_deeds(HOUSE, RULE, [SHUT1])
        allowed = after_deeds(HOUSE, RULE, [("allow", 0, P0)])
        both = after_deeds(HOUSE, RULE, [("allow", 0, P0), SHUT1])
        # Places of the case that the known looks do not leave are good, if what they lead to is in it.
        self.fails(CASE, KNOWN, [wanted + [((0, 1), allowed)], wanted + [((0, 1), allowed), ((0, 1, 2), both)]])
        self.fails(CASE, KNOWN, [wanted + [((0, 1, 2), both)], wanted + [((0, 2), shut)]])
        self.fails(CASE, KNOWN, [wanted + [((0,), wanted[0][1])]])
        # These are no places of the case.
        self.fails(CASE, KNOWN, [wanted + [((2,), wanted[0][1])], wanted + [((), shut)], wanted + [((1,), allowed)],
                                 wanted + [((1, 2), both)], wanted + [((), allowed)]])

    def test_a_place_that_is_not_come_to_but_closed(self):
        case = case_of(((("look", 0, 0), 0, 1), (("look", 0, 0), 2, 3), (("allow", 0, P0), 2, 3)), house=HOUSE)
        first, allowed = first_state(HOUSE, RULE), after_deeds(HOUSE, RULE, [("allow", 0, P0)])
        known = ((0, True), (1, False))
        self.check_answer(cover, NAMES[:2], (case, known), [((), first)])
        self.holds(case, known, [((0, 2), allowed), ((), first)])
        self.fails(case, known, [[((0, 2), allowed)], [((), first), ((0, 2), first)], [((), first), ((0,), first)]])
        self.fails(case, ((0, True),), [[((0, 2), allowed), ((), first)]])

    def test_the_place_at_which_all_is_done(self):
        end = (tuple(range(3)), after_deeds(HOUSE, RULE, [("allow", 0, P0), SHUT1]))
        self.fails(CASE, KNOWN, [cover(CASE, KNOWN) + [end], [end], [end] + cover(CASE, KNOWN)])
        self.fails(case_of(()), (), [[((), first_state(SMALL, RULE))], []])

    def test_all_looks_known(self):
        case = case_of(at_once(SEE, ("look", 1, 1), ("look", 1, 0)))
        first = first_state(SMALL, RULE)
        self.check_answer(cover, NAMES[:2], (case, ((0, False), (1, True), (2, True))), None)
        self.check_answer(cover, NAMES[:2], (case, ((0, True), (1, True), (2, False))), [((), first), ((1,), first)])
        self.check_answer(cover, NAMES[:2], (case, ((0, True), (1, False), (2, False))), [((), first)])

    def test_against_all_orders(self):
        chance = chance_of(181)
        covers = 0
        for _ in range(400):
            case = some_case(chance, share=0.5)
            covers += self.hold_against_all_orders(chance, case, some_known(chance, case))
        self.assertGreater(covers, 50)

    def test_as_many_events_as_can_be(self):
        chance = chance_of(182)
        covers = 0
        for case in BIG.values():
            for saw in (True, False):
                known = tuple((number, saw) for number in looks_in(case))
                covers += self.hold_against_all_orders(chance, case, known)
        self.assertGreater(covers, 2)

    def hold_against_all_orders(self, chance, case, known):
        """Return whether there is a cover."""
        steps = reckoning_of(case).steps()
        many = len(case[2])
        least = least_cover(steps, many, known)
        self.check_answer(cover, NAMES[:2], (case, known), least)
        self.assertIs(least is None, count_left(case, known) > 0)
        every = sorted(steps)
        for _ in range(4):
            tried = [place for place in least or every if chance.random() < 0.9]
            tried += [chance.choice(every) for _ in range(chance.choice((0, 0, 1, 2)))]
            chance.shuffle(tried)
            wanted = is_cover(steps, many, known, set(tried))
            self.assertIs(cover_holds(case, known, tried), wanted, (case, known, tried))
        if least is None:
            self.fails(case, known, [every, [place for place in every if len(place[0]) < many]])
            return False
        shuffled = least + [chance.choice(least)]
        chance.shuffle(shuffled)
        self.holds(case, known, least)
        self.holds(case, known, shuffled)
        # It is the least one, so no place can be left out.
        for at in list(range(len(least)))[:20]:
            self.fails(case, known, [least[:at] + least[at + 1:]])
        return True

    def test_a_look_never_comes_out_so_if_that_has_a_cover(self):
        chance = chance_of(183)
        for _ in range(150):
            case = some_case(chance, share=0.6)
            known = some_known(chance, case)
            for number in looks_in(case):
                if number not in dict(known) and count_left(case, known):
                    word = word_left(case, known, number)
                    for saw, never in ((True, "never"), (False, "always")):
                        put = tuple(sorted(known + ((number, saw),)))
                        self.assertIs(cover(case, put) is not None, word == never)

    def test_kinds_of_values(self):
        for place in cover(CASE, KNOWN):
            self.assertEqual([type(place)] + [type(part) for part in place], [tuple] * 3)


class AnyObject(unittest.TestCase):
    def fails(self, thing, case=CASE, known=KNOWN):
        self.assertIs(cover_holds(case, known, thing), False, thing)

    def test_no_list(self):
        good = cover(CASE, KNOWN)
        self.assertIs(cover_holds(CASE, KNOWN, good), True)
        for thing in WRONG + [tuple(good), set(good), dict(good), dict(enumerate(good)), iter(good), good[0], [good]]:
            self.fails(thing)

    def test_no_place(self):
        good = cover(CASE, KNOWN)
        first, second = good
        for thing in WRONG + wrong_rows(second) + [second[0], second[1], None, "", first + second]:
            self.fails(good + [thing])
            self.fails([first, thing])
        for done in [2, [2], None, "2", (2, 2), (2, 0), {}, (True,), ((2,),), (None,), (1, 2), (0, 2)]:
            self.fails([first, (done, second[1])])
            self.fails(good + [(done, second[1])])
        for number in wrong_numbers(3):
            self.fails(good + [((number,), second[1])])
        for done in (None, [], False, 0, "", {}, (0,), ((),)):
            self.fails([(done, first[1]), second])

    def test_no_state(self):
        good = cover(CASE, KNOWN)
        first, second = good
        for state in wrong_states() + [HOUSE]:
            self.fails([first, (second[0], state)])
            self.fails(good + [(second[0], state)])

    def test_numbers_in_the_place_of_true_and_false(self):
        good = cover(CASE, KNOWN)
        first, second = good
        for shut in ((0, 1, 0), (0, True, 0), (False, 1, False), [False, True, False]):
            self.assertEqual(tuple(shut), (False, True, False))
            self.fails([first, (second[0], with_part(second[1], 1, shut))])
        for parents in ((False, False), (0, False), [0, 0]):
            self.fails([first, (second[0], with_part(second[1], 0, parents))])
        case = case_of(((JOIN0, 0, 0), (SHUT1, 1, 1), (SEE, 2, 2)))
        wanted = cover(case, ((2, True),))
        self.assertEqual([done for done, _ in wanted], [(), (0,), (0, 1)])
        self.assertIs(cover_holds(case, ((2, True),), wanted), True)
        for done in ((False,), (False, 1), (0, True), (False, True)):
            tried = [place for place in wanted if len(place[0]) != len(done)]
            self.fails(tried + [(done, wanted[len(done)][1])], case, ((2, True),))

    def test_the_events_done_ascend(self):
        case = case_of(((JOIN0, 0, 0), (SHUT1, 0, 0), (SEE, 1, 1), (SEE, 2, 2)))
        known = ((2, False), (3, True))
        wanted = cover(case, known)
        self.assertEqual([done for done, _ in wanted], [(), (0,), (0, 1), (0, 1, 2), (1,)])
        self.assertIs(cover_holds(case, known, wanted), True)
        for at, dones in ((4, ((0, 0), (1, 1), [1], (0, 1))), (2, ((1, 0), (0, 1, 1), (0, 0, 0), (0, 0, 1))),
                          (3, ((2, 0, 1), (2, 1, 0), (0, 2, 1), (0, 1, 1, 1), (1, 1, 1, 0)))):
            for done in dones:
                self.fails(wanted[:at] + [(done, wanted[at][1])] + wanted[at + 1:], case, known)


def least_cover(steps, many, known):
    """The places that are come to from the first one, None if all can be done."""
    saws = dict(known)
    waiting = [place for place in steps if place[0] == ()]
    found = set(waiting)
    while waiting:
        place = waiting.pop()
        for event, (after, saw) in steps[place].items():
            if saws.get(event, saw) == saw and after not in found:
                found.add(after)
                waiting.append(after)
    return None if any(len(done) == many for done, _ in found) else sorted(found)


if __name__ == "__main__":
    unittest.main()
