"""The forms of the parts of houses, states, deeds and events; each function here takes any object as the thing."""

from sawwhen.groups import groups_of

MOST_PEOPLE = 4
MOST_PARENTS = 5
MOST_ENTRIES = 12
GROUPS = 3
LAST_MOMENT = 99

KINDS = ("allow", "bar")

DEED_PARTS = {
    "allow": ("folder", "who"),
    "bar": ("folder", "who"),
    "clear": ("folder", "who"),
    "join": ("group", "who"),
    "leave": ("group", "who"),
    "move": ("folder", "folder"),
    "shut": ("folder",),
    "open": ("folder",),
    "login": ("person",),
}


def is_integer(thing, least, most):
    """Whether thing is an integer from least to most."""
    return isinstance(thing, int) and not isinstance(thing, bool) and least <= thing <= most


def is_number(thing, many):
    """Whether thing numbers one of so many things, which are numbered from 0."""
    return is_integer(thing, 0, many - 1)


def is_word(thing, words):
    """Whether thing is one of the words."""
    return isinstance(thing, str) and thing in words


def is_row(thing, length):
    """Whether thing is a tuple of this length."""
    return isinstance(thing, tuple) and len(thing) == length


def is_same(thing, model):
    """Whether thing is equal to the model, of tuples, words and integers, in kind too, so that True is not 1."""
    if isinstance(model, tuple):
        return is_row(thing, len(model)) and all([is_same(part, other) for part, other in zip(thing, model)])
    if isinstance(model, str):
        return isinstance(thing, str) and thing == model
    return is_integer(thing, model, model)


def ascends(things):
    """Whether each of the things is less than the next one, so that none stands twice."""
    return all([things[at - 1] < things[at] for at in range(1, len(things))])


def is_who(thing, people):
    """Whether thing is a person or a group."""
    if not is_row(thing, 2):
        return False
    kind, number = thing
    if is_word(kind, ("p",)):
        return is_number(number, people)
    return is_word(kind, ("g",)) and is_number(number, GROUPS)


def _comes_to_top(parents, folder):
    """Whether one comes from the folder to folder 0, which takes no more steps than there are parents."""
    at = folder
    for _ in parents:
        if at != 0:
            at = parents[at - 1]
    return at == 0


def is_parents(thing):
    """Whether thing tells of each folder but folder 0 in which one it lies."""
    if not isinstance(thing, tuple) or len(thing) > MOST_PARENTS:
        return False
    folders = len(thing) + 1
    if not all([is_number(parent, folders) for parent in thing]):
        return False
    return all([_comes_to_top(thing, folder) for folder in range(folders)])


def is_shut(thing, folders):
    """Whether thing tells of each folder whether it is shut."""
    return is_row(thing, folders) and all([isinstance(flag, bool) for flag in thing])


def is_entry(thing, people, folders):
    """Whether thing is one entry."""
    if not is_row(thing, 3):
        return False
    folder, who, kind = thing
    return is_number(folder, folders) and is_who(who, people) and is_word(kind, KINDS)


def is_entries(thing, people, folders):
    """Whether thing is a tuple of entries that can stand beside one another."""
    if not isinstance(thing, tuple) or len(thing) > MOST_ENTRIES:
        return False
    if not all([is_entry(entry, people, folders) for entry in thing]):
        return False
    return ascends([(folder, who) for folder, who, kind in thing])


def is_member(thing, people):
    """Whether thing is a group and who belongs to it."""
    if not is_row(thing, 2):
        return False
    group, who = thing
    return is_number(group, GROUPS) and is_who(who, people)


def is_members(thing, people):
    """Whether thing is a tuple of members by which no group belongs to itself."""
    if not isinstance(thing, tuple):
        return False
    if not all([is_member(member, people) for member in thing]):
        return False
    if not ascends(thing):
        return False
    return not any([group in groups_of(thing, ("g", group), True) for group in range(GROUPS)])


def is_groups(thing):
    """Whether thing is a tuple, ascending, of groups."""
    return isinstance(thing, tuple) and all([is_number(group, GROUPS) for group in thing]) and ascends(thing)


def is_logins(thing, people):
    """Whether thing tells the groups of each person."""
    return is_row(thing, people) and all([is_groups(groups) for groups in thing])


def fit_together(people, parents, shut, entries, members):
    """Whether these are the parts of a house, or of a state, with so many people."""
    if not is_parents(parents):
        return False
    folders = len(parents) + 1
    return is_shut(shut, folders) and is_entries(entries, people, folders) and is_members(members, people)


def is_part(thing, name, people, folders):
    """Whether thing is a part of a deed of this name."""
    if name == "folder":
        return is_number(thing, folders)
    if name == "group":
        return is_number(thing, GROUPS)
    if name == "person":
        return is_number(thing, people)
    return is_who(thing, people)


def is_deed(thing, people, folders):
    """Whether thing is a deed of a house with so many people and folders."""
    if not isinstance(thing, tuple) or len(thing) == 0:
        return False
    word = thing[0]
    if not isinstance(word, str) or word not in DEED_PARTS:
        return False
    names = DEED_PARTS[word]
    if len(thing) != len(names) + 1:
        return False
    return all([is_part(part, name, people, folders) for part, name in zip(thing[1:], names)])


def is_look(thing, people, folders):
    """Whether thing is a look of a house with so many people and folders."""
    if not is_row(thing, 3):
        return False
    word, person, folder = thing
    return is_word(word, ("look",)) and is_number(person, people) and is_number(folder, folders)


def is_event(thing, people, folders):
    """Whether thing is an event of a house with so many people and folders."""
    if not is_row(thing, 3):
        return False
    what, early, late = thing
    if not is_deed(what, people, folders) and not is_look(what, people, folders):
        return False
    return is_integer(early, 0, LAST_MOMENT) and is_integer(late, early, LAST_MOMENT)
