"""What each deed or look makes of a state, for arguments that are known to be good."""

from sawwhen.forms import MOST_ENTRIES
from sawwhen.groups import closes_ring, groups_of
from sawwhen.rights import line_up


def begin(house, rule):
    """Return the state of the house in which everybody has just logged in."""
    people, parents, shut, entries, members = house
    logins = tuple([groups_of(members, ("p", person), rule[3]) for person in range(people)])
    return (parents, shut, entries, members, logins)


def put_at(row, at, worth):
    """Return the tuple with worth in the place of what stands there."""
    return row[:at] + (worth,) + row[at + 1:]


def without_entry(entries, folder, who):
    """Return the list of the entries but that for the folder and who."""
    return [entry for entry in entries if entry[:2] != (folder, who)]


def _put_entry(rule, state, deed):
    parents, shut, entries, members, logins = state
    kind, folder, who = deed
    others = without_entry(entries, folder, who)
    if len(others) == MOST_ENTRIES:
        return state
    return (parents, shut, tuple(sorted(others + [(folder, who, kind)])), members, logins)


def _clear_entry(rule, state, deed):
    parents, shut, entries, members, logins = state
    _, folder, who = deed
    return (parents, shut, tuple(without_entry(entries, folder, who)), members, logins)


def _join(rule, state, deed):
    parents, shut, entries, members, logins = state
    _, group, who = deed
    if (group, who) in members or closes_ring(members, group, who):
        return state
    return (parents, shut, entries, tuple(sorted(members + ((group, who),))), logins)


def _leave(rule, state, deed):
    parents, shut, entries, members, logins = state
    _, group, who = deed
    return (parents, shut, entries, tuple([member for member in members if member != (group, who)]), logins)


def _move(rule, state, deed):
    parents, shut, entries, members, logins = state
    _, folder, parent = deed
    # Folder 0 ends every line up, so this also keeps folder 0 from being moved.
    if folder in line_up(parents, parent):
        return state
    if rule[1] == "drops":
        entries = tuple([entry for entry in entries if entry[0] != folder])
    return (put_at(parents, folder - 1, parent), shut, entries, members, logins)


def _shut(rule, state, deed):
    parents, shut, entries, members, logins = state
    return (parents, put_at(shut, deed[1], deed[0] == "shut"), entries, members, logins)


def _login(rule, state, deed):
    parents, shut, entries, members, logins = state
    groups = groups_of(members, ("p", deed[1]), rule[3])
    return (parents, shut, entries, members, put_at(logins, deed[1], groups))


def _look(rule, state, look):
    """Return the state as it was: a look changes nothing."""
    return state


STEPS = {
    "allow": _put_entry,
    "bar": _put_entry,
    "clear": _clear_entry,
    "join": _join,
    "leave": _leave,
    "move": _move,
    "shut": _shut,
    "open": _shut,
    "login": _login,
    "look": _look,
}


def step(rule, state, what):
    """Return the state after the deed or look."""
    done = STEPS[what[0]]
    return done(rule, state, what)
