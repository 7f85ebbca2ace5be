"""A second, slow reader of texts: it tries whether some end makes a case of a beginning; the program is held against it."""

import re
from functools import lru_cache
from itertools import product

NUMBER = r"(?:0|[1-9][0-9]?)"
WHO = rf"[pg]{NUMBER}"
WHATS = [rf"(?:allow|bar|clear) {NUMBER} {WHO}", rf"(?:join|leave) {NUMBER} {WHO}", rf"move {NUMBER} {NUMBER}",
         rf"(?:shut|open|login) {NUMBER}", rf"look {NUMBER} {NUMBER}"]
WHAT = "(?:" + "|".join(WHATS) + ")"
DEED = "(?:" + "|".join(WHATS[:-1]) + ")"

FORMS = [("rule", r"(?:bar|near) (?:keeps|drops) (?:now|login) (?:deep|flat)"), ("people", rf"people {NUMBER}"),
         ("folder", rf"folder {NUMBER}"), ("shut", rf"shut {NUMBER}"),
         ("entry", rf"entry {NUMBER} {WHO} (?:allow|bar)"), ("member", rf"member {NUMBER} {WHO}"),
         ("event", rf"{WHAT} @ {NUMBER} {NUMBER}")]
RANKS = [kind for kind, _ in FORMS]


def is_form_of_deed(text):
    return re.fullmatch(DEED, text) is not None


def kind_of(line):
    return next((kind for kind, form in FORMS if re.fullmatch(form, line)), None)


def first_formless(lines):
    """The index of the first line that is not of the form, None if all are."""
    latest = "rule"
    for at, line in enumerate(lines):
        kind = kind_of(line)
        wanted = {0: "rule", 1: "people"}.get(at)
        if kind is None or (wanted or kind) != kind or (at > 1 and kind in ("rule", "people")):
            return at
        if RANKS.index(kind) < RANKS.index(latest):
            return at
        latest = kind
    return None if len(lines) > 1 else len(lines)


def part_of(word):
    return (word[0], int(word[1:])) if word[0] in "pg" and word[1:].isdigit() else int(word) if word.isdigit() else word


def written_case(lines):
    """What the lines write, which is perhaps no case."""
    first, moving, known, deep = lines[0].split(" ")
    rows = [(kind_of(line), line.split(" ")) for line in lines[1:]]

    def parts(wanted):
        return [tuple(part_of(word) for word in words[1:]) for kind, words in rows if kind == wanted]

    events = []
    for kind, words in rows:
        if kind == "event":
            events.append(((words[0],) + tuple(part_of(word) for word in words[1:-3]), int(words[-2]), int(words[-1])))
    parents = tuple(parent for parent, in parts("folder"))
    closed = [folder for folder, in parts("shut")]
    # A folder that is shut twice, or in another order, or not there, is written by no case.
    shut = tuple(at in closed for at in range(len(parents) + 1))
    if closed != [at for at, flag in enumerate(shut) if flag]:
        shut = None
    house = (parts("people")[0][0], parents, shut, tuple(parts("entry")), tuple(parts("member")))
    return (house, (first, moving, known, deep == "deep"), tuple(events))


def ends_of(lines):
    """Lines that can follow, such that if any lines make a case of these, some of these do."""
    if kind_of(lines[-1]) not in ("people", "folder"):
        return [()]
    room = max(0, 5 - (len(lines) - 2))
    ends = [("folder 0",) * many for many in range(room + 1)]
    if room < 3:
        ends += [tuple(f"folder {at}" for at in parents) for parents in product(range(6), repeat=room)]
    return ends


def wrong_line(text, is_case):
    """The line of the error for the text, None if it writes a case; is_case tells of any object."""
    lines = text.split("\n")
    formless = first_formless(lines)
    if formless is not None:
        return formless
    for many in range(2, len(lines) + 1):
        begun = tuple(lines[:many])
        if not can_go_on(begun, is_case):
            return many - 1
    return None if is_case(written_case(lines)) else len(lines)


@lru_cache(maxsize=None)
def can_go_on(begun, is_case):
    return any(is_case(written_case(begun + end)) for end in ends_of(begun))
