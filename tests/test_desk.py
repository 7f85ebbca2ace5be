"""Points 35 and 36: the desk."""

import unittest

from case_makers import EXAMPLE, looks_in, some_case, some_known, some_lively_case
from makers import WRONG, all_deeds, chance_of
from reader import is_form_of_deed, wrong_line
from sawwhen.desk import Desk
from sawwhen.errors import BadCommand, BadDeed, BadFolder, BadKnown, BadLook, BadPerson, BadText, Full, NoCase
from sawwhen.errors import NothingToUndo, SightError
from sawwhen.idle import idle_events
from sawwhen.known import count_left
from sawwhen.live import House
from sawwhen.looks import look_word
from sawwhen.orders import count_orders, is_case
from sawwhen.reasons import reason_for
from sawwhen.texts import show_case, show_deed

FIRST = (2, (0,), (False, False), (), ())
RULE = ("bar", "keeps", "now", True)


def row_of(case):
    """The row by which the desk takes the case."""
    return "case " + show_case(case).replace("\n", " / ")


class DeskChecks(unittest.TestCase):
    def answers(self, desk, *pairs):
        for row, wanted in pairs:
            got = desk.say(row)
            self.assertIs(type(got), str)
            self.assertEqual(got, wanted, row)

    def fails(self, desk, error, *rows):
        for row in rows:
            with self.assertRaises(SightError, msg=row) as caught:
                desk.say(row)
            self.assertIs(type(caught.exception), error, row)
        return caught.exception


class Rows(DeskChecks):
    def test_at_first(self):
        desk = Desk()
        self.answers(desk, ("who 0", "nobody"), ("who 1", "nobody"), ("why 0 0", "nothing"), ("why 1 1", "nothing"),
                     ("look 0 1", "no"), ("look 1 0", "no"), ("undo", "ok"), ("undo", "ok"))
        self.fails(desk, NothingToUndo, "undo")
        self.fails(desk, NoCase, "word 0", "orders", "left", "left 0+", "idle", "show")
        # By the first rule a bar stands above all that is nearer, and logins do not matter.
        self.answers(desk, ("do allow 0 g1", "ok"), ("do join 0 p0", "ok"), ("do join 1 g0", "ok"), ("look 0 1", "yes"),
                     ("do bar 0 p0", "ok"), ("do allow 1 p0", "ok"), ("look 0 1", "no"), ("do clear 0 p0", "ok"),
                     ("do move 1 0", "ok"), ("look 0 1", "yes"), ("who 1", "0"), ("why 0 1", "sees"))

    def test_deeds_looks_and_undo(self):
        desk = Desk()
        self.answers(desk, ("do allow 0 p0", "ok"), ("look 0 1", "yes"), ("look 1 1", "no"), ("who 1", "0"),
                     ("do allow 1 p1", "ok"), ("who 1", "0 1"), ("who 0", "0"), ("do shut 1", "ok"), ("who 1", "1"),
                     ("undo", "ok"), ("who 1", "0 1"), ("undo", "ok"), ("who 1", "0"), ("undo", "ok"), ("undo", "ok"),
                     ("who 1", "0"), ("undo", "ok"), ("who 1", "nobody"))
        self.fails(desk, NothingToUndo, "undo")

    def test_all_deeds(self):
        desk = Desk()
        for deed in all_deeds(2, 2):
            self.answers(desk, ("do " + show_deed(deed), "ok"), ("undo", "ok"))
        for deed in all_deeds(4, 6):
            if deed not in all_deeds(2, 2):
                self.fails(desk, BadDeed, "do " + show_deed(deed))

    def test_why(self):
        desk = Desk()
        self.answers(desk, ("do allow 0 p0", "ok"), ("why 0 1", "sees"), ("why 1 1", "nothing"), ("do bar 1 p0", "ok"),
                     ("why 0 1", "barred"), ("why 0 0", "sees"), ("do shut 1", "ok"), ("why 0 1", "barred"),
                     ("do clear 1 p0", "ok"), ("why 0 1", "nothing"))

    def test_the_example(self):
        desk = Desk()
        self.answers(desk, (row_of(EXAMPLE), "ok"), ("word 2", "sometimes"), ("orders", "6"), ("left", "6"),
                     ("left 2+", "1"), ("left 2-", "5"), ("idle", "2"), ("show", row_of(EXAMPLE)[5:]), ("who 1", "1"),
                     ("why 1 0", "sees"), ("why 0 0", "nothing"))

    def test_what_is_done_does_not_change_the_kept_case(self):
        desk = Desk()
        desk.say(row_of(EXAMPLE))
        self.answers(desk, ("do join 0 p0", "ok"), ("who 0", "0 1"), ("show", row_of(EXAMPLE)[5:]), ("word 2", "sometimes"),
                     ("undo", "ok"), ("who 0", "1"))
        self.fails(desk, NothingToUndo, "undo")

    def test_a_new_case_begins_anew(self):
        desk = Desk()
        self.answers(desk, ("do allow 0 p0", "ok"), (row_of(EXAMPLE), "ok"), ("who 0", "1"))
        self.fails(desk, NothingToUndo, "undo")
        other = ((1, (), (True,), ((0, ("p", 0), "allow"),), ()), ("near", "drops", "login", False), ())
        self.answers(desk, ("do join 0 p0", "ok"), (row_of(other), "ok"), ("who 0", "0"), ("orders", "1"), ("left", "1"),
                     ("idle", "none"), ("show", "near drops login flat / people 1 / shut 0 / entry 0 p0 allow"))
        self.fails(desk, NothingToUndo, "undo")
        self.fails(desk, BadFolder, "who 1")
        self.fails(desk, BadPerson, "look 1 0")
        self.fails(desk, BadLook, "word 0")

    def test_the_house_of_the_case_goes_by_its_rule(self):
        house = (1, (0,), (False, False), ((0, ("g", 0), "allow"), (1, ("p", 0), "bar")), ())
        for first in ("bar", "near"):
            for moving in ("keeps", "drops"):
                for known in ("now", "login"):
                    desk = Desk()
                    desk.say(row_of((house, (first, moving, known, True), ())))
                    desk.say("do join 0 p0")
                    self.answers(desk, ("who 0", "0" if known == "now" else "nobody"))
                    desk.say("do login 0")
                    self.answers(desk, ("look 0 0", "yes"), ("look 0 1", "no"), ("do move 1 0", "ok"),
                                 ("look 0 1", "yes" if moving == "drops" else "no"))

    def test_against_the_functions(self):
        chance = chance_of(351)
        for at in range(60):
            case = some_lively_case(chance) if at % 2 else some_case(chance, 6)
            desk, house = Desk(), House(case[0], case[1])
            self.answers(desk, (row_of(case), "ok"), ("orders", str(count_orders(case))), ("show", row_of(case)[5:]),
                         ("idle", " ".join(str(number) for number in idle_events(case)) or "none"))
            for number in looks_in(case):
                self.answers(desk, (f"word {number}", look_word(case, number)))
            known = some_known(chance, case)
            words = "".join(f" {number}{'+' if saw else '-'}" for number, saw in known)
            self.answers(desk, ("left" + words, str(count_left(case, known))))
            people, folders = case[0][0], len(case[0][2])
            for deed in chance.sample(all_deeds(people, folders), 8):
                house.do(deed)
                desk.say("do " + show_deed(deed))
                person, folder = chance.randrange(people), chance.randrange(folders)
                reason = reason_for(case[0], case[1], house.state(), person, folder)
                self.answers(desk, (f"who {folder}", " ".join(str(one) for one in house[folder]) or "nobody"),
                             (f"why {person} {folder}", reason[0]),
                             (f"look {person} {folder}", "yes" if (person, folder) in house else "no"))

    def test_two_desks(self):
        first, second = Desk(), Desk()
        first.say(row_of(EXAMPLE))
        first.say("do join 0 p0")
        self.fails(second, NoCase, "show")
        self.answers(second, ("who 0", "nobody"))
        self.fails(second, NothingToUndo, "undo")
        self.assertEqual(first.say(row="who 0"), "0 1")

    def test_say_is_defined_in_the_class_itself(self):
        self.assertIn("say", vars(Desk))


class Wrong(DeskChecks):
    def test_no_rows(self):
        for desk in (Desk(), with_case()):
            for thing in WRONG + [b"undo", ["undo"], ("undo",), ("look", 0, 0)]:
                self.fails(desk, BadCommand, thing)

    def test_rows_of_no_form(self):
        for desk in (Desk(), with_case()):
            self.fails(desk, BadCommand, "", " ", "  ", "\n", "undo ", " undo", "undo 1", "undo\n", "Undo", "UNDO", "un do",
                       "undone", "redo", "case", "Case x", "cases x", "do", "do ", "look", "look ", "look 0", "look 0 ",
                       "look 0 1 ", "look  0 1", "look 0  1", "look 0 1 2", "look 0,1", "look p0 1", "look 10 1", "look 0 10",
                       "look 00 1", "look -1 0", "look a b", "look 0 1\n", "look\n0 1", "look 0 +", "who", "who ", "who 0 1",
                       "who p0", "who 10", "who 00", "who -1", "who x", " who 0", "who 0 ", "word", "word ", "word 0 1",
                       "word 12", "word 01", "word x", "word +", "orders ", "orders 1", "order", "left ", "left  0+",
                       "left 0+ ", "left 0+  1+", "left 0", "left +", "left 0+1+", "left 0 +", "left 00+", "left 12+",
                       "left 0+ x", "left x", "left 0?", "left +0", "left 0+,1-", "left (0, True)", "left x+", "left ++", "left --", "left 0++", "left\n0+",
                       "why", "why 0", "why 0 1 2", "why p0 0", "why 0 01", "why 00 0", "why 0  0", "idle ", "idle 0", "idles",
                       "show ", "show 1", "shows", "help", "state", "log", "?", "0", "allow 0 g0", "shut 1")

    def test_deeds_of_no_form(self):
        texts = ["shut", "shut 01", "shut 100", "shut  1", "shut 1 ", " shut 1", "shut 1 1", "shut x", "allow 0", "allow 0 0",
                 "allow 0 g", "allow 0 g00", "allow 0 x1", "allow g0 0", "look 0 1", "look 0", "login p0", "move 1", "join g0 p0",
                 "undo", "do shut 1", "shut 1 @ 1 2", "clear 0 g0 allow", "shut 1\n", "SHUT 1", "people 2", "entry 0 g0 allow"]
        for desk in (Desk(), with_case()):
            for text in texts:
                self.assertFalse(is_form_of_deed(text))
                self.fails(desk, BadCommand, "do " + text)

    def test_deeds_that_are_none_of_the_house(self):
        for desk in (Desk(), with_case()):
            for text in ("shut 2", "shut 99", "open 10", "allow 2 g0", "allow 0 g3", "allow 0 p2", "bar 0 p99", "clear 9 p0",
                         "join 3 p0", "join 10 p0", "leave 0 g9", "move 0 2", "move 2 0", "login 2", "login 10"):
                self.assertTrue(is_form_of_deed(text))
                self.fails(desk, BadDeed, "do " + text)

    def test_persons_and_folders(self):
        for desk in (Desk(), with_case()):
            self.fails(desk, BadPerson, "look 2 0", "look 9 0", "look 2 2", "look 9 9", "why 2 0", "why 9 9", "why 2 2")
            self.fails(desk, BadFolder, "look 0 2", "look 1 9", "why 0 2", "why 1 9", "who 2", "who 9")

    def test_looks_and_known_looks(self):
        desk = with_case()
        self.fails(desk, BadLook, "word 0", "word 1", "word 3", "word 9")
        self.fails(desk, BadKnown, "left 0+", "left 1-", "left 3+", "left 9-", "left 2+ 2+", "left 2+ 2-", "left 2- 2+",
                   "left 2+ 9+", "left 1+ 2+", "left 3+ 2+")
        case = (EXAMPLE[0], EXAMPLE[1], EXAMPLE[2] + ((("look", 1, 0), 0, 99), (("look", 0, 0), 0, 99)))
        desk.say(row_of(case))
        self.fails(desk, BadKnown, "left 3+ 2+", "left 2+ 4- 3+", "left 2+ 3+ 3+", "left 4- 2-", "left 2+ 3+ 4+ 5+")
        self.answers(desk, ("left 2+ 3+", str(count_left(case, ((2, True), (3, True))))), ("left 3-", "0"),
                     ("left 2- 3+ 4-", str(count_left(case, ((2, False), (3, True), (4, False))))))

    def test_no_case_is_kept(self):
        desk = Desk()
        self.fails(desk, NoCase, "word 0", "word 9", "orders", "left", "left 9+", "left 2+ 2+", "left 2+ 1+", "idle", "show")
        with self.assertRaises(BadText):
            desk.say("case x")
        self.fails(desk, NoCase, "word 0", "show")

    def test_texts_of_no_case(self):
        for text, line in (("", 0), (" ", 0), ("x", 0), ("bar keeps now deep", 1), ("bar keeps now deep / ", 1),
                           ("bar keeps now deep / people 2 / ", 2), ("bar keeps now deep / people 5", 1),
                           ("bar keeps now deep / people 2 / folder 2", 3), (" bar keeps now deep / people 2", 0),
                           ("bar keeps now deep / people 2 / x / folder 9", 2), ("bar keeps now deep/people 2", 0),
                           ("bar keeps now deep /people 2", 0), ("bar keeps now deep / people 2 /", 1),
                           ("bar keeps now deep / / people 2", 1), ("bar keeps now deep /  / people 2", 1),
                           ("bar keeps now deep /  people 2", 1), ("bar keeps now deep / people 2 / shut 0 / shut 0", 3),
                           (" / ", 0), (" / / ", 0), ("bar keeps now deep / people 2 / / shut 0", 2)):
            for desk in (Desk(), with_case()):
                error = self.fails(desk, BadText, "case " + text)
                self.assertEqual(error.line, line, text)
                self.assertEqual(wrong_line(text.replace(" / ", "\n"), is_case), line, text)

    def test_after_an_error_nothing_has_changed(self):
        desk = with_case()
        self.answers(desk, ("do join 0 p0", "ok"), ("look 0 0", "yes"))
        wrong = [("x", BadCommand), (None, BadCommand), ("do look 0 0", BadCommand), ("case x", BadText), ("case ", BadText),
                 ("case bar keeps now deep / people 1 / folder 5", BadText), ("do shut 5", BadDeed), ("look 5 0", BadPerson),
                 ("look 0 5", BadFolder), ("why 0 5", BadFolder), ("who 5", BadFolder), ("word 0", BadLook),
                 ("left 0+", BadKnown)]
        for row, error in wrong:
            self.fails(desk, error, row)
            self.answers(desk, ("show", row_of(EXAMPLE)[5:]), ("who 0", "0 1"), ("orders", "6"))
        self.answers(desk, ("undo", "ok"), ("who 0", "0 1"), ("undo", "ok"), ("who 0", "1"))
        self.fails(desk, NothingToUndo, "undo")
        self.answers(desk, ("show", row_of(EXAMPLE)[5:]), ("who 0", "1"))

    def test_a_full_log(self):
        desk = with_case()
        for _ in range(100):
            self.answers(desk, ("do shut 1", "ok"), ("look 1 0", "yes"))
        self.fails(desk, Full, "do shut 1", "do open 0", "look 0 0")
        # What else is wrong tells first.
        self.fails(desk, BadDeed, "do shut 2")
        self.fails(desk, BadPerson, "look 2 0")
        self.fails(desk, BadFolder, "look 0 2")
        self.fails(desk, BadCommand, "look 0 20")
        self.answers(desk, ("who 0", "1"), ("why 1 0", "sees"), ("undo", "ok"), ("do shut 0", "ok"))
        self.fails(desk, Full, "look 0 0")
        self.answers(desk, (row_of(EXAMPLE), "ok"), ("look 0 0", "no"), ("undo", "ok"))
        self.fails(desk, NothingToUndo, "undo")

    def test_two_errors_at_once(self):
        desk = Desk()
        for row, error in (("word x", BadCommand), ("left 3+ x", BadCommand), ("left 3+ 2+", NoCase), ("word 9", NoCase),
                           ("look 9 9", BadPerson), ("look 9 99", BadCommand), ("why 9 9", BadPerson), ("do shut 099", BadCommand)):
            self.fails(desk, error, row)


def with_case():
    desk = Desk()
    desk.say(row_of(EXAMPLE))
    return desk


if __name__ == "__main__":
    unittest.main()
