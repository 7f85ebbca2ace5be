"""Points 31 and 32: a live house."""

import inspect
import unittest
from copy import deepcopy

from case_makers import G0, HOUSE, P0, P1
from checks import Checks
from makers import RULE, RULES, SMALL, WRONG, all_deeds, chance_of, some_house, with_part, wrong_deeds, wrong_houses
from makers import wrong_numbers, wrong_rules
from model import Model, model_first
from sawwhen.deeds import after_deeds
from sawwhen.errors import BadDeed, BadDeeds, BadFolder, BadHouse, BadPerson, BadRule, BadSpread, Full, NothingToUndo
from sawwhen.houses import all_sights, first_state, sees
from sawwhen.live import House
from sawwhen.orders import count_orders, is_case, walk

JOIN0, LEAVE0, SHUT1, OPEN1 = ("join", 0, P0), ("leave", 0, P0), ("shut", 1), ("open", 1)
NOW = ("bar", "keeps", "now", True)


class Twin:
    """The same house, which reckons its state from the beginning each time, by the second telling."""

    def __init__(self, house, rule):
        self.house, self.rule = house, rule
        self.log = []

    def state(self, many=None):
        model = Model(self.rule, model_first(self.house, self.rule))
        for entry in self.log[:many]:
            if entry[0] != "look":
                model.do(entry)
        return model.state()

    def sees(self, person, folder):
        return Model(self.rule, self.state()).sees(person, folder)

    def case(self, spread, last=8):
        """The case of the last entries."""
        ahead = max(0, len(self.log) - last)
        events = []
        moment = 30
        for entry in self.log[ahead:]:
            what = entry if entry[0] != "look" else entry[:3]
            events.append((what, moment - spread, moment + spread))
            moment += 5
        return ((self.house[0],) + self.state(ahead)[:4], self.rule, tuple(events))


def full_house(many):
    """A house with so many entries in its log."""
    house = House(SMALL)
    for at in range(many):
        house.do((SHUT1, OPEN1)[at % 2])
    return house


class Doing(Checks, unittest.TestCase):
    def test_at_first_nothing_was_done(self):
        for rule in RULES:
            house = House(SMALL, rule)
            self.assertEqual((house.state(), house.log(), len(house)), (first_state(SMALL, rule), [], 0))
        self.assertEqual(House(SMALL).rule, NOW)
        self.assertEqual(House(house=SMALL, rule=RULES[3]).rule, RULES[3])

    def test_deeds_looks_and_undo(self):
        house = House(SMALL)
        self.assertIs(house.look(0, 1), False)
        self.assertIsNone(house.do(JOIN0))
        self.assertIs(house.look(person=0, folder=1), True)
        self.assertIsNone(house.do(deed=SHUT1))
        self.assertIs(house.look(0, 1), False)
        self.assertEqual(house.log(), [("look", 0, 1, False), JOIN0, ("look", 0, 1, True), SHUT1, ("look", 0, 1, False)])
        self.assertEqual(house.state(), after_deeds(SMALL, RULE, [JOIN0, SHUT1]))
        self.assertIsNone(house.undo())
        self.assertEqual((len(house), house.state()), (4, after_deeds(SMALL, RULE, [JOIN0, SHUT1])))
        house.undo()
        self.assertEqual(house.state(), after_deeds(SMALL, RULE, [JOIN0]))
        self.assertEqual(house.log(), [("look", 0, 1, False), JOIN0, ("look", 0, 1, True)])
        house.undo()
        house.undo()
        self.assertEqual((house.log(), house.state()), ([("look", 0, 1, False)], first_state(SMALL, RULE)))
        house.undo()
        for _ in range(2):
            with self.assertRaises(NothingToUndo):
                house.undo()
        self.assertEqual((len(house), house.state()), (0, first_state(SMALL, RULE)))

    def test_a_deed_that_changes_nothing_is_noted_too(self):
        house = House(SMALL)
        house.do(OPEN1)
        house.do(("move", 0, 1))
        house.do(OPEN1)
        self.assertEqual((house.log(), house.state()), ([OPEN1, ("move", 0, 1), OPEN1], first_state(SMALL, RULE)))
        house.undo()
        self.assertEqual(house.log(), [OPEN1, ("move", 0, 1)])

    def test_after_an_undo_one_goes_on(self):
        house = House(SMALL)
        house.do(JOIN0)
        house.undo()
        house.do(SHUT1)
        house.undo()
        house.do(LEAVE0)
        self.assertEqual((house.log(), house.state()), ([LEAVE0], first_state(SMALL, RULE)))

    def test_do_all(self):
        house = House(SMALL)
        self.assertIsNone(house.do_all([JOIN0, SHUT1]))
        self.assertIsNone(house.do_all(deeds=[]))
        house.do_all([OPEN1])
        self.assertEqual(house.log(), [JOIN0, SHUT1, OPEN1])
        house.undo()
        house.undo()
        self.assertEqual((house.log(), house.state()), ([JOIN0], after_deeds(SMALL, RULE, [JOIN0])))

    def test_do_all_or_nothing(self):
        house = House(SMALL)
        house.do(JOIN0)
        for deeds, place in (([SHUT1, None], 1), ([("shut", 2), SHUT1], 0), ((SHUT1,), -1), (None, -1), (SHUT1, -1),
                             ([SHUT1] * 60 + [None], 60), ([SHUT1] * 61, 60), ([SHUT1] * 59 + [("look", 0, 0)], 59),
                             ([SHUT1, ["shut", 1]], 1), ("", -1), ({}, -1), ([OPEN1] * 500, 60)):
            with self.assertRaises(BadDeeds) as caught:
                house.do_all(deeds)
            self.assertEqual(caught.exception.place, place)
            self.assertEqual((house.log(), house.state()), ([JOIN0], after_deeds(SMALL, RULE, [JOIN0])))
        house.do_all([SHUT1] * 60)
        self.assertEqual(len(house), 61)

    def test_the_list_of_deeds_is_not_kept(self):
        house, deeds = House(SMALL), [JOIN0, SHUT1]
        house.do_all(deeds)
        deeds.append("changed")
        self.assertEqual(house.log(), [JOIN0, SHUT1])
        self.assertEqual(deeds, [JOIN0, SHUT1, "changed"])

    def test_the_log_is_new_each_time(self):
        house = House(SMALL)
        house.do(JOIN0)
        house.log().append("changed")
        house.log().clear()
        self.assertEqual((house.log(), len(house)), ([JOIN0], 1))

    def test_the_limit_of_the_log(self):
        for many in (198, 199):
            house = full_house(many)
            house.do(JOIN0)
            self.assertEqual(len(house), many + 1)
        house = full_house(199)
        house.look(0, 0)
        house.undo()
        house.do_all([JOIN0])
        self.assertEqual(len(house), 200)
        self.check_full(house)
        house.undo()
        house.do(LEAVE0)
        self.check_full(house)

    def check_full(self, house):
        kept = (house.log(), house.state())
        self.assertEqual(len(house), 200)
        for function, values in ((house.do, (JOIN0,)), (house.look, (0, 0)), (house.do_all, ([JOIN0],)),
                                 (house.do_all, ([JOIN0] * 60,))):
            with self.assertRaises(Full):
                function(*values)
        self.assertIsNone(house.do_all([]))
        # Their other errors come first.
        for error, function, values in ((BadDeed, house.do, (None,)), (BadPerson, house.look, (2, 9)),
                                        (BadFolder, house.look, (0, 2)), (BadDeeds, house.do_all, ([None],)),
                                        (BadDeeds, house.do_all, ([JOIN0] * 61,)), (BadDeeds, house.do_all, (None,))):
            with self.assertRaises(error):
                function(*values)
        self.assertEqual((house.log(), house.state()), kept)

    def test_a_list_of_sixty_where_there_is_room_or_none(self):
        for many, fits in ((139, True), (140, True), (141, False), (200, False)):
            house = full_house(many)
            kept = (house.log(), house.state())
            if fits:
                house.do_all([JOIN0] * 60)
                self.assertEqual(len(house), many + 60)
            else:
                with self.assertRaises(Full):
                    house.do_all([JOIN0] * 60)
                self.assertEqual((house.log(), house.state()), kept)

    def test_wrong_arguments(self):
        self.check_wrong(House, (None, RULE), 0, BadHouse, wrong_houses())
        self.check_wrong(House, (HOUSE, None), 1, BadRule, wrong_rules())
        self.check_first_wrong(House, (HOUSE, RULE), (BadHouse, BadRule))
        house = House(HOUSE)
        self.check_wrong(house.do, (None,), 0, BadDeed, wrong_deeds())
        self.check_wrong(house.look, (None, 0), 0, BadPerson, wrong_numbers(2))
        self.check_wrong(house.look, (0, None), 1, BadFolder, wrong_numbers(3))
        self.check_first_wrong(house.look, (0, 0), (BadPerson, BadFolder))
        self.check_wrong(house.do_all, (None,), 0, BadDeeds, [[thing] for thing in wrong_deeds()])
        self.assertEqual(house.log(), [])

    def test_against_a_second_telling(self):
        chance = chance_of(311)
        for rule in RULES * 4:
            people, folders = chance.choice((1, 2, 4)), chance.choice((1, 3, 6))
            told = Twin(some_house(chance, people, folders), rule)
            house = House(told.house, rule)
            deeds = all_deeds(people, folders)
            for _ in range(30):
                self.one_step(chance, house, told, deeds, (people, folders))
                self.assertEqual((house.state(), house.log(), list(house)), (told.state(), told.log, told.log))
                self.assertEqual(house.rule, rule)
            for folder in range(folders):
                self.assertEqual(house[folder], tuple(at for at in range(people) if told.sees(at, folder)))
            for spread, last in ((0, 8), (30, 1), (7, chance.randint(1, 8))):
                case = house.case(spread, last=last)
                self.assertEqual(case, told.case(spread, last))
                self.assertIs(is_case(case), True)

    def one_step(self, chance, house, told, deeds, size):
        word = chance.choice(("do", "do", "do", "look", "look", "do_all", "undo"))
        if word == "do":
            deed = chance.choice(deeds)
            house.do(deed)
            told.log.append(deed)
        elif word == "look":
            person, folder = chance.randrange(size[0]), chance.randrange(size[1])
            saw = told.sees(person, folder)
            self.assertIs(house.look(person, folder), saw)
            told.log.append(("look", person, folder, saw))
        elif word == "do_all":
            some = chance.sample(deeds, 3)
            house.do_all(some)
            told.log.extend(some)
        elif told.log:
            house.undo()
            told.log.pop()


class Cases(Checks, unittest.TestCase):
    def house(self):
        house = House(SMALL)
        house.do(JOIN0)
        house.look(0, 1)
        house.do(SHUT1)
        return house

    def test_the_last_entries(self):
        house = self.house()
        look = ("look", 0, 1)
        self.assertEqual(house.case(0), (SMALL, RULE, ((JOIN0, 30, 30), (look, 35, 35), (SHUT1, 40, 40))))
        self.assertEqual(house.case(3), house.case(spread=3, last=8))
        self.assertEqual(house.case(30)[2], ((JOIN0, 0, 60), (look, 5, 65), (SHUT1, 10, 70)))
        joined = (2, (0,), (False, False), SMALL[3], ((0, P0), (0, P1)))
        self.assertEqual(house.case(2, last=2), (joined, RULE, ((look, 28, 32), (SHUT1, 33, 37))))
        self.assertEqual(house.case(2, last=1), (joined, RULE, ((SHUT1, 28, 32),)))
        self.assertEqual(house.case(2, last=3), house.case(2))
        self.assertEqual(house.log(), [JOIN0, ("look", 0, 1, True), SHUT1])

    def test_an_empty_log(self):
        for last in range(1, 9):
            self.assertEqual(House(SMALL).case(5, last=last), (SMALL, RULE, ()))

    def test_eight_of_many(self):
        house = full_house(13)
        for spread in (0, 2, 3, 30):
            case = house.case(spread)
            self.assertIs(is_case(case), True)
            self.assertEqual([(early, late) for _, early, late in case[2]],
                             [(30 + 5 * at - spread, 30 + 5 * at + spread) for at in range(8)])
            self.assertEqual([what for what, _, _ in case[2]], house.log()[-8:])
        self.assertEqual(house.case(2), house.case(2, last=8))
        self.assertEqual([count_orders(house.case(spread, last=4)) for spread in (0, 2, 3, 30)], [1, 1, 5, 24])

    def test_everybody_has_just_logged_in(self):
        house = House(SMALL, ("bar", "keeps", "login", True))
        house.do(JOIN0)
        self.assertIs(house.look(0, 0), False)
        case = house.case(0, last=1)
        self.assertIs(sees(case[0], case[1], walk(case, (0,))[0], 0, 0), True)

    def test_wrong_spreads_and_numbers_of_entries(self):
        house = self.house()
        for spread in [31, 100] + wrong_numbers(31):
            with self.assertRaises(BadSpread):
                house.case(spread)
        for last in [0, 9, 100] + wrong_numbers(9):
            with self.assertRaises(BadSpread):
                house.case(0, last=last)
            with self.assertRaises(BadSpread):
                House(SMALL).case(None, last=last)
        with self.assertRaises(TypeError):
            house.case(0, 8)
        for spread in range(31):
            for last in range(1, 9):
                self.assertEqual(len(house.case(spread, last=last)[2]), min(3, last))

    def test_last_is_by_name_only(self):
        parameters = inspect.signature(House.case).parameters
        self.assertEqual(parameters["last"].kind, inspect.Parameter.KEYWORD_ONLY)
        self.assertEqual(parameters["last"].default, 8)


class AsAList(Checks, unittest.TestCase):
    def test_length_and_entries(self):
        house = House(SMALL)
        for many in range(6):
            self.assertEqual((len(house), len(list(house))), (many, many))
            house.do(SHUT1)
        house.look(1, 1)
        self.assertEqual([entry for entry in house], [SHUT1] * 6 + [("look", 1, 1, False)])
        self.assertEqual([list(house), list(house)], [house.log()] * 2)

    def test_who_sees_a_folder(self):
        house = House(SMALL)
        self.assertEqual((house[0], house[1]), ((1,), (1,)))
        house.do(JOIN0)
        self.assertEqual((house[0], house[1]), ((0, 1), (0, 1)))
        house.do(SHUT1)
        self.assertEqual((house[0], house[1]), ((0, 1), ()))
        self.assertIs(type(house[0]), tuple)
        for wrong in wrong_numbers(2) + [slice(0, 1), -2]:
            with self.assertRaises(BadFolder):
                house[wrong]
        self.assertEqual(len(house), 2)

    def test_in(self):
        house = House(SMALL)
        house.do(JOIN0)
        house.do(SHUT1)
        sights = all_sights(SMALL, RULE, house.state())
        for person in range(-1, 4):
            for folder in range(-1, 4):
                self.assertIs((person, folder) in house, (person, folder) in sights)
        for thing in WRONG + [[0, 0], (True, 0), (1, False), (False, False), (0,), (0, 0, 0), JOIN0, SHUT1, ("look", 0, 0),
                              (None, 0), ("0", 0), (0, "0"), ((0, 0),), house, ((0, 0), 0), {0: 0}, ("p", 0), (P0, 0)]:
            self.assertIs(thing in house, False, thing)
        self.assertEqual(len(house), 2)

    def test_equal(self):
        first, second = House(SMALL), House(SMALL)
        self.assertTrue(first == second)
        first.do(JOIN0)
        self.assertFalse(first == second)
        self.assertTrue(first != second)
        second.do(JOIN0)
        self.assertTrue(first == second and not first != second)
        first.undo()
        second.undo()
        self.assertTrue(first == second)

    def test_looks_aside(self):
        first, second = House(SMALL), House(SMALL)
        first.look(0, 0)
        self.assertTrue(first == second and second == first)
        for house in (first, second):
            house.do(JOIN0)
        second.look(0, 1)
        second.look(1, 1)
        self.assertTrue(first == second)
        first.do(SHUT1)
        self.assertFalse(first == second)
        second.do(SHUT1)
        self.assertTrue(first == second)

    def test_unlike_by_one_part(self):
        first = House(SMALL)
        for rule in RULES:
            self.assertIs(first == House(SMALL, rule), rule == RULE)
        self.assertFalse(first == House(with_part(SMALL, 0, 3)))
        self.assertFalse(first == House(with_part(SMALL, 2, (True, False))))
        # The same state, but by other deeds, or from another house.
        second, third = House(SMALL), House(SMALL)
        second.do_all([JOIN0, SHUT1])
        third.do_all([SHUT1, JOIN0])
        self.assertEqual(second.state(), third.state())
        self.assertFalse(second == third)
        second = House(with_part(SMALL, 2, (False, True)))
        third.undo()
        self.assertEqual(second.state(), third.state())
        self.assertFalse(second == third)
        second, third = House(SMALL), House(SMALL)
        second.do(OPEN1)
        self.assertEqual(second.state(), third.state())
        self.assertFalse(second == third)

    def test_equal_to_nothing_else(self):
        house = House(SMALL)
        for thing in WRONG + [SMALL, RULE, house.state(), house.log(), (SMALL, RULE, []), house.case(0)]:
            self.assertIs(house == thing, False)
            self.assertIs(house != thing, True)
            self.assertIs(thing == house, False)


class Copies(Checks, unittest.TestCase):
    def house(self):
        house = House(SMALL, ("near", "drops", "login", True))
        house.do_all([JOIN0, ("login", 0)])
        house.look(0, 1)
        return house

    def test_a_copy_goes_its_own_way(self):
        first = self.house()
        second = first.copy()
        self.assertIsInstance(second, House)
        self.assertTrue(first == second)
        kept = (first.log(), first.state(), first.rule)
        self.assertEqual((second.log(), second.state(), second.rule), kept)
        second.do(SHUT1)
        second.look(1, 1)
        self.assertEqual((first.log(), first.state(), first.rule), kept)
        self.assertFalse(first == second)
        for _ in range(5):
            second.undo()
        self.assertEqual((first.log(), first.state(), first.rule), kept)
        self.assertEqual(second.state(), first_state(SMALL, first.rule))

    def test_the_first_one_goes_its_own_way(self):
        first = self.house()
        second = first.copy()
        kept = (second.log(), second.state())
        first.undo()
        first.undo()
        first.do(SHUT1)
        self.assertEqual((second.log(), second.state()), kept)
        second.undo()
        second.undo()
        second.undo()
        self.assertEqual((second.log(), second.state()), ([], first_state(SMALL, second.rule)))
        self.assertEqual(first.log(), [JOIN0, SHUT1])

    def test_with_another_rule(self):
        first = House(SMALL, ("bar", "keeps", "login", True))
        first.do(JOIN0)
        first.look(0, 1)
        first.look(1, 1)
        kept = (first.log(), first.state())
        second = first.with_rule(("bar", "keeps", "now", False))
        self.assertIsInstance(second, House)
        self.assertEqual(second.log(), [JOIN0, ("look", 0, 1, True), ("look", 1, 1, True)])
        self.assertEqual((first.log(), first.state(), first.rule), kept + (("bar", "keeps", "login", True),))
        self.assertEqual(second.rule, ("bar", "keeps", "now", False))
        self.assertFalse(first == second)
        self.assertTrue(first == second.with_rule(first.rule))
        second.undo()
        second.do(SHUT1)
        self.assertEqual((first.log(), first.state()), kept)

    def test_deeds_are_done_anew_by_the_other_rule(self):
        deeds = [("allow", 1, G0), ("move", 1, 0), ("join", 1, G0), ("join", 0, P0), ("login", 0)]
        for rule in RULES:
            first = House(SMALL, rule)
            first.do_all(deeds)
            for other in RULES:
                second = first.with_rule(rule=other)
                self.assertEqual(second.state(), after_deeds(SMALL, other, deeds))
                self.assertEqual((second.log(), second.rule, first.rule), (deeds, other, rule))
                second.undo()
                self.assertEqual(second.state(), after_deeds(SMALL, other, deeds[:-1]))

    def test_a_full_log_is_done_anew_and_copied(self):
        house = full_house(199)
        house.look(0, 0)
        for other in (house.copy(), house.with_rule(RULES[0])):
            self.assertEqual((len(other), other.log()[:199]), (200, house.log()[:199]))
            with self.assertRaises(Full):
                other.look(0, 0)

    def test_what_was_taken_back_is_not_done_anew(self):
        house = self.house()
        house.undo()
        house.undo()
        self.assertEqual(house.with_rule(RULE).log(), [JOIN0])
        self.assertEqual(house.copy().log(), [JOIN0])

    def test_wrong_rules(self):
        house = self.house()
        self.check_wrong(house.with_rule, (None,), 0, BadRule, wrong_rules())
        self.assertEqual(house.rule, ("near", "drops", "login", True))

    def test_the_house_that_is_passed_stays_as_it_is(self):
        kept = deepcopy(SMALL)
        house = House(SMALL)
        house.do_all([JOIN0, SHUT1, ("clear", 0, G0)])
        self.assertEqual(SMALL, kept)

    def test_all_is_defined_in_the_class_itself(self):
        for name in ("do", "look", "undo", "do_all", "state", "log", "case", "copy", "rule", "with_rule",
                     "__len__", "__getitem__", "__contains__", "__iter__", "__eq__", "__init__"):
            self.assertIn(name, vars(House))
        self.assertIsInstance(vars(House)["rule"], property)


if __name__ == "__main__":
    unittest.main()
