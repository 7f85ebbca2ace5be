"""Points 33 and 34: texts of deeds and cases, written and read back."""

import unittest

from case_makers import BIG, EXAMPLE, G0, G1, G2, P0, P1, at_once, case_of, some_case, some_lively_case, wrong_cases
from case_makers import wrong_looks
from checks import Checks
from makers import RULES, SMALL, WRONG, all_deeds, chance_of, with_part, wrong_deeds, wrong_houses
from reader import is_form_of_deed, wrong_line
from sawwhen.errors import BadCase, BadDeed, BadHouse, BadText
from sawwhen.orders import is_case
from sawwhen.texts import read_case, read_deed, show_case, show_deed

TEXT = """bar keeps now deep
people 2
folder 0
entry 0 g0 allow
member 0 p1
join 0 p0 @ 10 30
shut 1 @ 20 40
look 0 1 @ 25 35"""

HEAD = "bar keeps now deep\npeople 2"

# Objects that are no text.
NO_TEXTS = [thing for thing in WRONG if not isinstance(thing, str)] + [b"shut 1", ["shut 1"], ("shut", 1), (TEXT,), EXAMPLE]

# A house with one of everything.
RICH = ((3, (2, 0, 2, 1, 0), (True, False, False, True, False, False),
         ((0, G0, "allow"), (0, P0, "bar"), (3, G2, "allow"), (5, P1, "allow"), (5, ("p", 2), "bar")),
         ((0, ("g", 1)), (0, P0), (1, ("g", 2)), (2, ("p", 2)))),
        ("near", "drops", "login", False),
        ((("allow", 5, G1), 0, 99), (("bar", 0, ("p", 2)), 9, 10), (("clear", 3, G2), 0, 0), (("join", 2, P1), 5, 50),
         (("leave", 0, G1), 99, 99), (("move", 4, 0), 7, 8), (("login", 2), 1, 2), (("look", 2, 5), 3, 33)))
RICH_TEXT = """near drops login flat
people 3
folder 2
folder 0
folder 2
folder 1
folder 0
shut 0
shut 3
entry 0 g0 allow
entry 0 p0 bar
entry 3 g2 allow
entry 5 p1 allow
entry 5 p2 bar
member 0 g1
member 0 p0
member 1 g2
member 2 p2
allow 5 g1 @ 0 99
bar 0 p2 @ 9 10
clear 3 g2 @ 0 0
join 2 p1 @ 5 50
leave 0 g1 @ 99 99
move 4 0 @ 7 8
login 2 @ 1 2
look 2 5 @ 3 33"""


class ShowDeed(Checks, unittest.TestCase):
    def test_each_word(self):
        for deed, text in ((("allow", 2, G0), "allow 2 g0"), (("bar", 0, ("p", 3)), "bar 0 p3"),
                           (("clear", 5, G2), "clear 5 g2"), (("join", 0, P0), "join 0 p0"),
                           (("leave", 2, G1), "leave 2 g1"), (("move", 3, 1), "move 3 1"), (("shut", 4), "shut 4"),
                           (("open", 0), "open 0"), (("login", 3), "login 3"), (("look", 0, 4), "look 0 4")):
            self.check_answer(show_deed, ("deed",), (deed,), text)

    def test_those_of_any_house(self):
        looks = [("look", person, folder) for person in range(4) for folder in range(6)]
        for what in all_deeds(4, 6) + looks:
            text = show_deed(what)
            self.assertEqual(text.split(" ")[0], what[0])
            house = (4, (0,) * 5, (False,) * 6, (), ())
            self.assertEqual(read_deed(house, text), what)

    def test_wrong(self):
        # These are good in larger houses than that of the wrong deeds.
        wrong = [thing for thing in wrong_deeds() + wrong_looks() if thing not in all_of_any_house()]
        self.check_wrong(show_deed, (None,), 0, BadDeed, wrong)
        self.check_wrong(show_deed, (None,), 0, BadDeed, [
            ("allow", 6, G0), ("bar", 0, ("p", 4)), ("clear", 0, ("g", 3)), ("join", 3, P0), ("move", 6, 0), ("move", 0, 6),
            ("shut", 6), ("open", -1), ("login", 4), ("look", 4, 0), ("look", 0, 6), ("shut", True), ("look", False, 0),
            "shut 1", ("look", 0, 0, True), ("shut", 1, 0), (("shut", 1), 0, 9)])


def all_of_any_house():
    return all_deeds(4, 6) + [("look", person, folder) for person in range(4) for folder in range(6)]


class ReadDeed(Checks, unittest.TestCase):
    def wrong(self, house, text):
        with self.assertRaises(BadText, msg=text) as caught:
            read_deed(house, text)
        self.assertEqual(caught.exception.line, 0)

    def test_each_deed_and_look_of_the_house(self):
        for people, folders in ((2, 2), (1, 1), (4, 6)):
            house = (people, (0,) * (folders - 1), (False,) * folders, (), ())
            good = all_deeds(people, folders)
            good += [("look", person, folder) for person in range(people) for folder in range(folders)]
            for what in all_of_any_house():
                text = show_deed(what)
                if what in good:
                    self.check_answer(read_deed, ("house", "text"), (house, text), what)
                else:
                    self.wrong(house, text)

    def test_blanks_and_line_feeds(self):
        for text in ("shut 1", "allow 0 g0", "look 0 1", "move 1 0"):
            self.assertEqual(show_deed(read_deed(SMALL, text)), text)
            for other in (" " + text, text + " ", text.replace(" ", "  "), text + "\n", "\n" + text, text + "\n" + text,
                          text.replace(" ", "\n"), text.replace(" ", ""), text.upper(), text[:-1], text + "0", text + " 0",
                          text + " @ 1 2", text.replace(" ", "\t"), text + "."):
                if other != "allow 0 g00":
                    self.wrong(SMALL, other)

    def test_numbers_and_who(self):
        for text in ("shut 01", "shut 00", "shut 10", "shut 100", "shut -1", "shut +1", "shut 1.0", "shut", "shut ", "shut x",
                     "allow 0 g", "allow 0 p", "allow 0 x0", "allow 0 g00", "allow 0 g10", "allow 0 g100", "allow 0 0",
                     "allow 0 G0", "allow g0 0", "allow 0 pg0", "allow 0 p-1", "allow 0 p2", "allow 0 g3", "allow 2 g0",
                     "login p0", "login 2", "look p0 1", "look 0", "look 0 1 2", "look 0 2", "move 1", "move 1 2", "join g0 p0",
                     "join 3 p0", "leave 0 1", "", " ", "\n", "deny 0 g0", "people 1", "folder 0", "entry 0 g0 allow",
                     "member 0 p0", "nothing", "look 0 1 @ 1 1", "@", "shut @ 1", "0", "allow", "bar keeps now deep"):
            self.wrong(SMALL, text)

    def test_no_texts(self):
        for thing in NO_TEXTS:
            self.wrong(SMALL, thing)

    def test_wrong_houses(self):
        self.check_wrong(read_deed, (None, "shut 0"), 0, BadHouse, wrong_houses())
        self.check_first_wrong(read_deed, (SMALL, "shut 0"), (BadHouse, BadText))


class ShowCase(Checks, unittest.TestCase):
    def test_the_example(self):
        self.check_answer(show_case, ("case",), (EXAMPLE,), TEXT)

    def test_one_of_everything(self):
        self.assertIs(is_case(RICH), True)
        self.check_answer(show_case, ("case",), (RICH,), RICH_TEXT)
        self.check_answer(read_case, ("text",), (RICH_TEXT,), RICH)

    def test_nothing(self):
        case = ((1, (), (False,), (), ()), ("near", "keeps", "login", True), ())
        self.check_answer(show_case, ("case",), (case,), "near keeps login deep\npeople 1")
        for rule in RULES:
            text = show_case(case_of((), rule))
            self.assertEqual(text.split("\n")[0], " ".join(rule[:3]) + (" deep" if rule[3] else " flat"))
            self.assertEqual(read_case(text)[1], rule)

    def test_each_is_read_back(self):
        chance = chance_of(331)
        cases = [some_case(chance, 8) for _ in range(300)] + [some_lively_case(chance) for _ in range(50)]
        for case in cases + list(BIG.values()) + [EXAMPLE, RICH]:
            text = show_case(case)
            self.assertEqual(read_case(text), case)
            self.assertIsNone(wrong_line(text, is_case))

    def test_wrong_cases(self):
        self.check_wrong(show_case, (None,), 0, BadCase, wrong_cases())


class ReadCase(Checks, unittest.TestCase):
    def wrong(self, text, line):
        with self.assertRaises(BadText, msg=text) as caught:
            read_case(text)
        self.assertEqual(caught.exception.line, line, text)
        if isinstance(text, str):
            self.assertEqual(wrong_line(text, is_case), line, text)

    def good(self, text):
        case = read_case(text)
        self.assertIs(is_case(case), True)
        self.assertEqual(show_case(case), text)
        self.assertIsNone(wrong_line(text, is_case), text)

    def with_lines(self, *lines):
        return "\n".join((HEAD,) + lines)

    def test_the_example(self):
        self.check_answer(read_case, ("text",), (TEXT,), EXAMPLE)

    def test_what_is_no_text(self):
        for thing in NO_TEXTS:
            self.wrong(thing, 0)

    def test_empty_and_short_texts(self):
        self.wrong("", 0)
        self.wrong("\n", 0)
        self.wrong(" ", 0)
        self.wrong("people 2", 0)
        self.wrong("x", 0)
        # The text ends ahead of the second line.
        self.wrong("bar keeps now deep", 1)
        self.wrong("bar keeps now deep\n", 1)
        self.wrong("bar keeps now deep\n\n", 1)
        self.wrong("\nbar keeps now deep", 0)
        self.good(HEAD)
        self.wrong(HEAD + "\n", 2)
        self.wrong(HEAD + "\n\n", 2)
        self.wrong(TEXT + "\n", 8)
        self.wrong("\n" + TEXT, 0)

    def test_the_rule(self):
        for rule in ("bar keeps now", "bar keeps now deep deep", "keeps bar now deep", "bar bar now deep", "far keeps now deep",
                     "bar drop now deep", "bar keeps then deep", "bar keeps now True", "bar keeps now Deep", "BAR keeps now deep",
                     " bar keeps now deep", "bar keeps now deep ", "bar  keeps now deep", "rule bar keeps now deep", ""):
            self.wrong(rule + "\npeople 2", 0)
            self.wrong(rule + "\nx", 0)

    def test_the_people(self):
        for number in ("0", "5", "9", "10", "99"):
            self.wrong("bar keeps now deep\npeople " + number, 1)
            # A line that is not of the form tells first.
            self.wrong("bar keeps now deep\npeople " + number + "\nfolder 0\nx", 3)
        for number in ("1", "2", "3", "4"):
            self.good("bar keeps now deep\npeople " + number)
        for line in ("people", "people ", "people 02", "people 00", "people 100", "people -1", "people x", "people 2 2", "2",
                     "folder 0", "bar keeps now deep", "", "People 2", " people 2"):
            self.wrong("bar keeps now deep\n" + line, 1)
            self.wrong("bar keeps now deep\n" + line + "\nfolder 0", 1)

    def test_no_line_stands_twice_or_in_the_wrong_place(self):
        lines = ("folder 0", "shut 1", "entry 0 g0 allow", "member 0 p1", "look 0 1 @ 1 2")
        self.good(self.with_lines(*lines))
        for at, first in enumerate(lines):
            for behind in lines[at + 1:]:
                self.wrong(self.with_lines(behind, first), 3)
                self.wrong(self.with_lines(behind, behind, first, "x"), 4)
        for line in ("people 2", "bar keeps now deep"):
            for many in range(6):
                self.wrong(self.with_lines(*lines[:many], line, *lines[many:]), many + 2)

    def test_forms_of_lines(self):
        for line in ("folder", "folder x", "folder 00", "folder 100", "folder 0 0", "shut", "shut x", "shut 01", "shut 0 1",
                     "shut 1 @", "shut 1 @ 1", "shut 1 @ 1 2 3", "shut 1 @ 1 100", "shut 1 @ 01 2", "shut 1  @ 1 2",
                     "shut 1 @  1 2", "shut 1 @ 1 2 ", "shut 1@ 1 2", "shut 1 @1 2", "shut @ 1 2", "@ 1 2", " @ 1 2",
                     "shut 1 @ 1 @ 2", "shut 1 @ 1 2 @ 1 2", "entry 0 g0", "entry 0 g0 deny", "entry 0 g0 allow allow",
                     "entry g0 0 allow", "entry 0 allow", "entry 0 x0 bar", "entry 00 g0 bar", "entry 0 g01 bar", "entry",
                     "member 0", "member g0 p0", "member 0 p", "member 0 p0 p1", "member 0 0", "open 1", "login 0",
                     "allow 0 g0", "look 0 0", "rule", "undo @ 1 2", "look 0 @ 1 2", "entry 0 g0 allow @ 1 2", "x", "",
                     "folder 0 @ 1 2", "member 0 p0 @ 1 2", "people 2 @ 1 2", "join 0 p0 @ a b", "join 0 p0 @ 1 -2"):
            self.wrong(self.with_lines(line), 2)
            self.wrong(self.with_lines("folder 0", line), 3)
            # A later line that is not of the form, and an earlier one by which it is no case: the form tells.
            self.wrong("bar keeps now deep\npeople 9\nfolder 9\n" + line, 3)

    def test_folders(self):
        for many in range(6):
            self.good(self.with_lines(*["folder 0"] * many))
        self.wrong(self.with_lines(*["folder 0"] * 6), 7)
        self.wrong(self.with_lines(*["folder 0"] * 20), 7)
        self.good(self.with_lines("folder 2", "folder 3", "folder 0"))
        self.good(self.with_lines("folder 2", "folder 3", "folder 4", "folder 5", "folder 0"))
        # In itself, in a ring, or in a folder that cannot come.
        self.wrong(self.with_lines("folder 1"), 2)
        self.wrong(self.with_lines("folder 0", "folder 2", "folder 0"), 3)
        self.wrong(self.with_lines("folder 2", "folder 1"), 3)
        self.wrong(self.with_lines("folder 3", "folder 1", "folder 2", "folder 0"), 4)
        self.wrong(self.with_lines("folder 6"), 2)
        self.wrong(self.with_lines("folder 0", "folder 99"), 3)
        self.wrong(self.with_lines("folder 6", "folder 0"), 2)

    def test_a_beginning_that_is_no_case(self):
        self.wrong(self.with_lines("folder 2"), 3)
        self.wrong(self.with_lines("folder 5"), 3)
        self.wrong(self.with_lines("folder 5", "folder 0", "folder 1", "folder 2"), 6)
        self.wrong(self.with_lines("folder 0", "folder 3"), 4)
        # The folder that is missing cannot come any more.
        for line in ("shut 0", "entry 0 g0 allow", "member 0 p0", "look 0 0 @ 1 2"):
            self.wrong(self.with_lines("folder 2", line), 3)
            self.wrong(self.with_lines("folder 3", "folder 0", line, line), 4)
            self.good(self.with_lines("folder 2", "folder 0", line))

    def test_shut_folders(self):
        self.good(self.with_lines("shut 0"))
        self.good(self.with_lines("folder 0", "shut 0", "shut 1"))
        self.wrong(self.with_lines("shut 1"), 2)
        self.wrong(self.with_lines("shut 99"), 2)
        self.wrong(self.with_lines("folder 0", "shut 1", "shut 0"), 4)
        self.wrong(self.with_lines("folder 0", "shut 1", "shut 1"), 4)
        self.wrong(self.with_lines("folder 0", "shut 2"), 3)

    def test_entries(self):
        self.good(self.with_lines("entry 0 g0 allow", "entry 0 g1 bar", "entry 0 p0 allow"))
        for lines, line in ((("entry 1 g0 allow",), 2), (("entry 0 g3 allow",), 2), (("entry 0 p2 allow",), 2),
                            (("entry 0 g0 allow", "entry 0 g0 allow"), 3), (("entry 0 g0 allow", "entry 0 g0 bar"), 3),
                            (("entry 0 g0 bar", "entry 0 g0 allow"), 3), (("entry 0 p0 bar", "entry 0 g0 bar"), 3),
                            (("folder 0", "entry 1 g0 bar", "entry 0 g1 bar"), 4), (("entry 0 g99 bar",), 2)):
            self.wrong(self.with_lines(*lines), line)
            self.wrong(self.with_lines(*lines, "member 0 p0"), line)
        entries = [f"entry {at} {who} bar" for at in range(3) for who in ("g0", "g1", "g2", "p0", "p1")]
        self.good(self.with_lines("folder 0", "folder 0", *entries[:12]))
        self.wrong(self.with_lines("folder 0", "folder 0", *entries[:13]), 16)
        self.wrong(self.with_lines("folder 0", "folder 0", *entries), 16)

    def test_members(self):
        self.good(self.with_lines("member 0 g1", "member 0 p0", "member 1 g2", "member 2 p1"))
        for lines, line in ((("member 3 p0",), 2), (("member 0 g3",), 2), (("member 0 p2",), 2), (("member 0 g0",), 2),
                            (("member 0 p0", "member 0 p0"), 3), (("member 0 p0", "member 0 g1"), 3),
                            (("member 0 g1", "member 1 g0"), 3), (("member 0 g1", "member 1 g2", "member 2 g0"), 4),
                            (("member 1 p0", "member 0 p0"), 3)):
            self.wrong(self.with_lines(*lines), line)
            self.wrong(self.with_lines(*lines, "shut 0 @ 1 2"), line)

    def test_events(self):
        for many in range(9):
            self.good(self.with_lines(*["look 0 0 @ 0 99"] * many))
        self.wrong(self.with_lines(*["look 0 0 @ 0 99"] * 9), 10)
        self.wrong(self.with_lines(*["look 0 0 @ 0 99"] * 30), 10)
        for what in ("look 2 0", "look 0 1", "shut 1", "allow 0 g3", "allow 0 p2", "join 3 p0", "login 2", "move 0 1",
                     "clear 9 g0", "open 99"):
            self.wrong(self.with_lines("look 0 0 @ 1 2", what + " @ 1 2", "look 0 0 @ 2 1"), 3)
        self.wrong(self.with_lines("look 0 0 @ 2 1"), 2)
        self.wrong(self.with_lines("shut 0 @ 99 98"), 2)
        self.good(self.with_lines("shut 0 @ 99 99", "open 0 @ 0 0", "move 0 0 @ 5 6"))

    def test_the_first_of_two_wrong_lines(self):
        self.wrong(self.with_lines("folder 1", "shut 9"), 2)
        self.wrong(self.with_lines("shut 9", "entry 9 g9 bar"), 2)
        self.wrong("bar keeps now deep\npeople 7\nfolder 1", 1)
        self.wrong(self.with_lines("shut 9", "x", "y"), 3)

    def test_as_long_as_can_be(self):
        self.wrong(self.with_lines(*["folder 0"] * 1100), 7)
        self.wrong(self.with_lines(*["shut 0 @ 0 99"] * 700), 10)
        self.wrong(TEXT + "\n" * 9000, 8)
        self.wrong("x" * 10000, 0)
        self.wrong("\n" * 10000, 0)

    def test_against_a_second_reader(self):
        chance = chance_of(341)
        texts = [show_case(some_case(chance, 4)) for _ in range(60)] + [TEXT, RICH_TEXT, HEAD]
        lines = set()
        for at in range(3000):
            text = chance.choice(texts)
            for _ in range(chance.choice((1, 1, 2, 3))):
                text = changed(chance, text)
            wanted = wrong_line(text, is_case)
            lines.add(wanted)
            if wanted is None:
                self.good(text)
            else:
                self.wrong(text, wanted)
        self.assertTrue({None, 0, 1, 2, 3, 4, 5, 6, 7, 8, 9, 10} <= lines, lines)


def changed(chance, text):
    """The text with a small change."""
    lines = text.split("\n")
    word = chance.choice(("digit", "digit", "digit", "twice", "out", "swap", "char", "char out", "blank", "end"))
    at = chance.randrange(len(text) + 1)
    if word == "digit":
        digits = [at for at, sign in enumerate(text) if sign.isdigit()]
        at = chance.choice(digits or [0])
        return text[:at] + chance.choice(("0", "1", "2", "3", "4", "5", "6", "9", "12", "05")) + text[at + 1:]
    if word == "char":
        return text[:at] + chance.choice("gp01 @\nx") + text[at:]
    if word == "char out":
        return text[:at] + text[at + 1:]
    if word == "blank":
        return text.replace(" ", "  ", 1) if chance.random() < 0.2 else text
    row = chance.randrange(len(lines))
    if word == "twice":
        lines.insert(chance.choice((row, row + 1)), lines[row])
    elif word == "out":
        del lines[row]
    elif word == "end":
        lines = lines[:row]
    else:
        other = chance.randrange(len(lines))
        lines[row], lines[other] = lines[other], lines[row]
    return "\n".join(lines)


class Forms(unittest.TestCase):
    def test_the_second_reader_knows_the_deeds(self):
        for what in all_deeds(4, 6):
            self.assertTrue(is_form_of_deed(show_deed(what)))
        self.assertFalse(is_form_of_deed("look 0 0"))
        case = case_of(at_once(("shut", 1)), house=with_part(SMALL, 2, (True, True)))
        self.assertEqual(show_case(case).count("shut"), 3)
        self.assertEqual(read_case(show_case(case)), case)


if __name__ == "__main__":
    unittest.main()
