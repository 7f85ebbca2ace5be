"""A desk that holds a live house, keeps a case, and answers rows with texts."""

from sawwhen.errors import BadCommand, NoCase
from sawwhen.forms import DEED_PARTS
from sawwhen.idle import idle_events
from sawwhen.known import count_left
from sawwhen.lines import what_of
from sawwhen.live import House
from sawwhen.looks import look_word
from sawwhen.orders import count_orders
from sawwhen.reasons import reason_for
from sawwhen.texts import read_case, show_case

FIRST_HOUSE = (2, (0,), (False, False), (), ())
FIRST_RULE = ("bar", "keeps", "now", True)
BREAK = " / "

# How many single digits stand behind the word of a row, for the rows that are written so.
DIGITS = {
    "look": 2,
    "undo": 0,
    "who": 1,
    "word": 1,
    "orders": 0,
    "why": 2,
    "idle": 0,
    "show": 0,
}


def _is_digit(word):
    return len(word) == 1 and word.isascii() and word.isdigit()


def _known_look(word):
    """Return (number, saw) that the word writes as in `3+` or `3-`, None if it writes none."""
    if len(word) != 2 or not _is_digit(word[0]) or word[1] not in "+-":
        return None
    return (int(word[0]), word[1] == "+")


def _parts_of(word, rest):
    """Return the list of what stands behind the word of a row, None if it is not of the form; rest may be None."""
    if word == "case":
        return None if rest is None else [rest]
    words = [] if rest is None else rest.split(" ")
    if word == "do":
        deed = what_of(rest) if words else None
        return [deed] if deed is not None and deed[0] in DEED_PARTS else None
    if word == "left":
        known = [_known_look(one) for one in words]
        return None if None in known else [tuple(known)]
    if word not in DIGITS or len(words) != DIGITS[word] or not all([_is_digit(one) for one in words]):
        return None
    return [int(one) for one in words]


def _read_row(row):
    """Return the word of the row and the list of its parts; raise BadCommand for what is no row."""
    if not isinstance(row, str):
        raise BadCommand("this is no row")
    word, blank, rest = row.partition(" ")
    parts = _parts_of(word, rest if blank else None)
    if parts is None:
        raise BadCommand("this is no row of any form")
    return (word, parts)


def _numbers_or(numbers, word):
    """Return the numbers, separated by blanks, or the word if there are none."""
    return " ".join([str(number) for number in numbers]) or word


class Desk:
    """A desk that answers rows."""

    def __init__(self):
        self._plan = FIRST_HOUSE
        self._house = House(FIRST_HOUSE, FIRST_RULE)
        self._case = None

    def say(self, row):
        """Return the answer to the row."""
        word, parts = _read_row(row)
        if word in ("case", "do", "undo"):
            self._change(word, parts)
            return "ok"
        if word in ("look", "who", "why"):
            return self._tell_of_house(word, parts)
        if self._case is None:
            raise NoCase("no case is kept")
        return self._tell_of_case(word, parts)

    def _change(self, word, parts):
        if word == "case":
            case = read_case(parts[0].replace(BREAK, "\n"))
            self._plan, rule, _ = case
            self._house = House(self._plan, rule)
            self._case = case
        elif word == "do":
            self._house.do(parts[0])
        else:
            self._house.undo()

    def _tell_of_house(self, word, parts):
        if word == "look":
            return "yes" if self._house.look(parts[0], parts[1]) else "no"
        if word == "who":
            return _numbers_or(self._house[parts[0]], "nobody")
        reason = reason_for(self._plan, self._house.rule, self._house.state(), parts[0], parts[1])
        return reason[0]

    def _tell_of_case(self, word, parts):
        if word == "word":
            return look_word(self._case, parts[0])
        if word == "orders":
            return str(count_orders(self._case))
        if word == "left":
            return str(count_left(self._case, parts[0]))
        if word == "idle":
            return _numbers_or(idle_events(self._case), "none")
        return show_case(self._case).replace("\n", BREAK)
