"""Texts of deeds, looks and cases, written and read back."""

from sawwhen.drafts import Draft
from sawwhen.errors import BadDeed, BadText
from sawwhen.forms import MOST_PARENTS, MOST_PEOPLE, is_deed, is_look
from sawwhen.houses import need_house
from sawwhen.lines import row_of, rule_of, show_row, show_rule, what_of
from sawwhen.orders import need_case

# The kinds of lines behind the rule, in their order.
KINDS_OF_LINES = ("people", "folder", "shut", "entry", "member", "event")


def _is_what(thing, people, folders):
    """Whether thing, any object, is a deed or a look of a house with so many people and folders."""
    return is_deed(thing, people, folders) or is_look(thing, people, folders)


def show_deed(deed):
    """Return the text of a deed or look of any house."""
    # What is a deed of any house is one of the largest.
    if not _is_what(deed, MOST_PEOPLE, MOST_PARENTS + 1):
        raise BadDeed("this is no deed of any house")
    return show_row(deed)


def _show_event(event):
    what, early, late = event
    return f"{show_row(what)} @ {early} {late}"


def show_case(case):
    """Return the text of the case, in lines."""
    need_case(case)
    (people, parents, shut, entries, members), rule, events = case
    lines = [show_rule(rule), show_row(("people", people))]
    lines = lines + [show_row(("folder", parent)) for parent in parents]
    lines = lines + [show_row(("shut", folder)) for folder, flag in enumerate(shut) if flag]
    lines = lines + [show_row(("entry",) + entry) for entry in entries]
    lines = lines + [show_row(("member",) + member) for member in members]
    return "\n".join(lines + [_show_event(event) for event in events])


def _rows_of(lines):
    """Return the list of what the lines behind the rule write; raise BadText by the first one not of the form."""
    if rule_of(lines[0]) is None:
        raise BadText(0)
    rows = []
    latest = "people"
    for at, line in enumerate(lines[1:]):
        row = row_of(line)
        # The people stand in the first of these lines and in no other one.
        if row is None or (row[0] == "people") != (at == 0):
            raise BadText(at + 1)
        if KINDS_OF_LINES.index(row[0]) < KINDS_OF_LINES.index(latest):
            raise BadText(at + 1)
        latest = row[0]
        rows.append(row)
    if not rows:
        raise BadText(len(lines))
    return rows


def read_case(text):
    """Return the case that the text writes."""
    if not isinstance(text, str):
        raise BadText(0)
    lines = text.split("\n")
    draft = Draft()
    for at, row in enumerate(_rows_of(lines)):
        if not draft.take(row):
            raise BadText(at + 1)
    if not draft.is_whole():
        raise BadText(len(lines))
    return (draft.told_house(), rule_of(lines[0]), draft.told_events())


def read_deed(house, text):
    """Return the deed or look of the house that the text writes."""
    need_house(house)
    if not isinstance(text, str):
        raise BadText(0)
    what = what_of(text)
    if not _is_what(what, house[0], len(house[2])):
        raise BadText(0)
    return what
