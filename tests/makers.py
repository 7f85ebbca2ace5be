"""Houses, states, deeds and wrong objects for the tests; all of them come out the same in each run."""

import random
from itertools import product

from model import belongs_to, ringless

RULES = list(product(("bar", "near"), ("keeps", "drops"), ("now", "login"), (False, True)))
RULE = ("bar", "keeps", "now", True)

WRONG = [None, True, False, 0, 1, -1, 10 ** 50, "", "house", "p0", b"", [], {}, set(), (), object(), len, int, range(2)]

# The example of the document: two people, a folder in folder 0, one entry, one member.
SMALL = (2, (0,), (False, False), ((0, ("g", 0), "allow"),), ((0, ("p", 1)),))


def all_who(people):
    return [("g", group) for group in range(3)] + [("p", person) for person in range(people)]


def all_spots(people, folders):
    return [(folder, who) for folder in range(folders) for who in all_who(people)]


def all_deeds(people, folders):
    """All deeds of the houses with so many people and folders."""
    deeds = [(word,) + spot for word in ("allow", "bar", "clear") for spot in all_spots(people, folders)]
    deeds += [(word, group, who) for word in ("join", "leave") for group in range(3) for who in all_who(people)]
    deeds += [("move", folder, parent) for folder in range(folders) for parent in range(folders)]
    deeds += [(word, folder) for word in ("shut", "open") for folder in range(folders)]
    return deeds + [("login", person) for person in range(people)]


def all_trees(folders):
    """All parents of houses with so many folders."""
    trees = []
    for parents in product(range(folders), repeat=folders - 1):
        if all(ends_at_top(parents, folder) for folder in range(folders)):
            trees.append(parents)
    return trees


def ends_at_top(parents, folder):
    met = set()
    while folder != 0 and folder not in met:
        met.add(folder)
        folder = parents[folder - 1]
    return folder == 0


def all_group_members():
    """All members of groups by groups that hold no ring."""
    pairs = [(group, ("g", other)) for group in range(3) for other in range(3) if group != other]
    found = []
    for chosen in product((False, True), repeat=6):
        members = tuple(sorted(pair for pair, taken in zip(pairs, chosen) if taken))
        if ringless(members):
            found.append(members)
    return found


def some_tree(chance, folders):
    """Parents of folders that hang below one another in any order of their numbers."""
    numbers = list(range(1, folders))
    chance.shuffle(numbers)
    parents = {}
    placed = [0]
    for number in numbers:
        parents[number] = chance.choice(placed)
        placed.append(number)
    return tuple(parents[at] for at in range(1, folders))


def some_entries(chance, people, folders, many):
    spots = all_spots(people, folders)
    chosen = chance.sample(spots, min(many, len(spots)))
    return tuple(sorted((folder, who, chance.choice(("allow", "bar"))) for folder, who in chosen))


def some_members(chance, people, many):
    members = set()
    for _ in range(many):
        group, who = chance.randrange(3), chance.choice(all_who(people))
        if who[0] == "p" or (who[1] != group and who[1] not in belongs_to(members, ("g", group))):
            members.add((group, who))
    return tuple(sorted(members))


def some_house(chance, people=None, folders=None, many=None):
    """A house, with so many people, folders and entries if they are told."""
    people = people or chance.randint(1, 4)
    folders = folders or chance.randint(1, 6)
    many = chance.choice((0, 3, 6, 11, 12)) if many is None else many
    shut = tuple(chance.random() < 0.3 for _ in range(folders))
    entries = some_entries(chance, people, folders, many)
    return (people, some_tree(chance, folders), shut, entries, some_members(chance, people, chance.choice((0, 4, 9))))


def some_state(chance, people, folders, many=None):
    """A state of houses with so many people and folders, perhaps one that never comes about."""
    parents, shut, entries, members = some_house(chance, people, folders, many)[1:]
    logins = tuple(tuple(group for group in range(3) if chance.random() < 0.4) for _ in range(people))
    return (parents, shut, entries, members, logins)


def chance_of(seed):
    return random.Random(seed)


def wrong_parents():
    """Objects that are no parents of three folders."""
    wrong = [[0, 0], None, True, 0, "", "00", b"  ", (), (0,), (0, 0, 0), (0,) * 6, {1: 0, 2: 0}]
    wrong += [(2, 1), (1, 0), (0, 2), (1, 2), (2, 2), (1, 1)]
    return wrong + [(0, at) for at in wrong_numbers(3)] + [(at, 0) for at in wrong_numbers(3)]


def wrong_shut(folders):
    flags = (False,) * folders
    return [list(flags), None, False, 0, "", flags + (False,), flags[1:], (0,) * folders, (1,) + flags[1:],
            flags[1:] + (0,), (None,) * folders, ("",) * folders, ((),) * folders]


WRONG_WHO = [("p", 2), ("p", -1), ("g", 3), ("g", -1), ("g", True), ("p", False), ("g", None), ("g", "0"), ("x", 0),
             ("p",), ("g", 0, 0), (), ["g", 0], "g0", None, 0, (0, "g"), (0, 0), (None, 0), (True, 0), ("P", 0),
             (b"p", 0), ("pg", 0), ("", 0), (["p"], 0), ("p", [0]), ("p", (0,)), [("p", 0)], {}]


def wrong_entries(folders):
    """Objects that are no entries of a house with two people and so many folders."""
    good = (0, ("g", 0), "allow")
    wrong = [[good], [], None, True, "", good, ([0, ("g", 0), "allow"],), (good, None), (good[:2],), ((),)]
    wrong += [(good + ("allow",),), (good, good), (good, (0, ("g", 0), "bar")), ((0, ("g", 1), "allow"), good)]
    wrong += [((0, ("p", 0), "bar"), (0, ("g", 2), "bar"))]
    wrong += [((at, ("g", 0), "allow"),) for at in (-1, folders, True, False, None, "0", (0,), [0], 10 ** 50)]
    wrong += [((0, who, "allow"),) for who in WRONG_WHO]
    kinds = ("deny", "", "Allow", "clear", "allowbar", None, True, 0, b"allow", ("allow",), ["bar"])
    wrong += [((0, ("g", 0), kind),) for kind in kinds]
    return wrong


def wrong_members():
    """Objects that are no members of a house with two people."""
    first, second = (0, ("g", 1)), (0, ("p", 0))
    wrong = [[first], [], None, True, "", first, ([0, ("g", 1)],), (first, None), ((0,),), ((),)]
    wrong += [(first + (0,),), (first, first), (second, first), ((1, ("p", 0)), (0, ("p", 0)))]
    wrong += [((at, ("p", 0)),) for at in (-1, 3, True, False, None, "0", (0,), [0])]
    wrong += [((0, who),) for who in WRONG_WHO]
    wrong += [((0, ("g", 0)),), ((2, ("g", 2)),), (first, (1, ("g", 0))), ((1, ("g", 2)), (2, ("g", 1)))]
    wrong += [((0, ("g", 1)), (1, ("g", 2)), (2, ("g", 0))), ((0, ("g", 2)), (1, ("g", 0)), (2, ("g", 1)))]
    wrong += [((0, ("g", 1)), (0, ("p", 0)), (1, ("g", 2)), (1, ("p", 1)), (2, ("g", 0)))]
    return wrong


def with_part(row, at, part):
    return row[:at] + (part,) + row[at + 1:]


def wrong_rows(row):
    """Objects that are like the row, but for its form."""
    return [list(row), row[:-1], row[1:], row + (row[-1],), row + ((),), (row,), [row], dict(enumerate(row)), row[::-1]]


def wrong_houses():
    """Objects that are no house."""
    good = (2, (0, 0), (False, False, False), ((0, ("g", 0), "allow"),), ((0, ("p", 1)),))
    wrong = list(WRONG) + wrong_rows(good)
    wrong += [with_part(good, 0, people) for people in (0, 5, -1, True, False, None, "2", (2,), 10 ** 50)]
    wrong += [with_part(good, 1, parents) for parents in wrong_parents()]
    wrong += [with_part(good, 2, shut) for shut in wrong_shut(3)]
    wrong += [with_part(good, 3, entries) for entries in wrong_entries(3)]
    wrong += [with_part(good, 4, members) for members in wrong_members()]
    # Each of these would fit beside another number of people or of folders.
    wrong += [with_part(good, 2, (False,) * 4), with_part(good, 2, (False,) * 2)]
    wrong += [(1, (), (False,), (), ((0, ("p", 1)),)), (1, (), (False,), ((0, ("p", 1), "bar"),), ())]
    wrong += [(1, (), (False,), ((1, ("p", 0), "bar"),), ()), (4, (0,) * 6, (False,) * 7, (), ())]
    spots = all_spots(4, 6)
    wrong += [(4, (0,) * 5, (False,) * 6, tuple((at, who, "bar") for at, who in spots[:13]), ())]
    return wrong


def wrong_states():
    """Objects that are no state of a house with two people and three folders."""
    good = ((0, 0), (False, False, False), ((0, ("g", 0), "allow"),), ((0, ("p", 1)),), ((), (0,)))
    wrong = list(WRONG) + wrong_rows(good)
    wrong += [with_part(good, 0, parents) for parents in wrong_parents()]
    wrong += [with_part(good, 1, shut) for shut in wrong_shut(3)]
    wrong += [with_part(good, 2, entries) for entries in wrong_entries(3)]
    wrong += [with_part(good, 3, members) for members in wrong_members()]
    logins = [[(), ()], None, "", True, (), ((),), ((), (), ()), ([], ()), ((), [0]), ((), None), ((), 0), (0, 1)]
    logins += [((), (at,)) for at in (3, -1, True, False, None, "0", ("g", 0), [0])]
    logins += [((), (0, 0)), ((1, 0), ()), ((0, 2, 1), ()), ((), (0, 1, 2, 3)), ((), (0, 1, 1)), ("", ())]
    wrong += [with_part(good, 4, groups) for groups in logins]
    # These are states of other houses: with fewer or more folders, or with fewer or more people.
    wrong += [((0,), (False,) * 2, (), (), ((), ())), ((0,) * 3, (False,) * 4, (), (), ((), ()))]
    wrong += [((0, 0), (False,) * 3, (), (), ((),)), ((0, 0), (False,) * 3, (), (), ((),) * 3)]
    wrong += [(2,) + good[:4]]
    spots = all_spots(2, 3)
    wrong += [with_part(good, 2, tuple((at, who, "bar") for at, who in spots[:13]))]
    return wrong


def wrong_rules():
    """Objects that are no rule."""
    wrong = list(WRONG) + wrong_rows(RULE)
    wrong += [with_part(RULE, 0, first) for first in ("far", "", "Bar", "barnear", None, True, b"bar", ("bar",), 0)]
    wrong += [with_part(RULE, 1, moving) for moving in ("drop", "", "bar", None, False, b"keeps", ["keeps"])]
    wrong += [with_part(RULE, 2, known) for known in ("then", "", "near", None, True, b"now", ("now",))]
    wrong += [with_part(RULE, 3, deep) for deep in (0, 1, None, "", "deep", (), [])]
    return wrong


def wrong_numbers(many):
    """Objects that number none of so many things."""
    return [many, many + 1, -1, 10 ** 50, True, False, None, "0", "", b"0", (0,), [0], (), ("p", 0), {}, len, object()]


def wrong_deeds():
    """Objects that are no deed of a house with two people and three folders."""
    wrong = list(WRONG) + ["allow", ("allow",), ("login",), ("look", 0, 0), ("undo",), ("", 0), (0, 0), (None, 0)]
    wrong += [("ALLOW", 0, ("g", 0)), (b"allow", 0, ("g", 0)), (("allow",), 0, ("g", 0)), (["shut"], 0), (True, 0)]
    for word in ("allow", "bar", "clear"):
        wrong += [(word, folder, ("g", 0)) for folder in wrong_numbers(3)]
        wrong += [(word, 0, who) for who in WRONG_WHO]
        wrong += [(word, 0), (word, 0, ("g", 0), 0), [word, 0, ("g", 0)], (word, ("g", 0), 0), (word, 0, "g", 0)]
    for word in ("join", "leave"):
        wrong += [(word, group, ("p", 0)) for group in wrong_numbers(3)]
        wrong += [(word, 0, who) for who in WRONG_WHO]
        wrong += [(word, 0), (word, 0, ("p", 0), 0), [word, 0, ("p", 0)], (word, ("p", 0), 0), (word, ("g", 0), ("p", 0))]
    wrong += [("move", folder, 0) for folder in wrong_numbers(3)] + [("move", 1, parent) for parent in wrong_numbers(3)]
    wrong += [("move", 1), ("move", 1, 0, 0), ["move", 1, 0], ("move", (1, 0)), ("move",)]
    for word in ("shut", "open"):
        wrong += [(word, folder) for folder in wrong_numbers(3)] + [(word, 0, 0), [word, 0], (word,), (word, 0, True)]
    wrong += [("login", person) for person in wrong_numbers(2)] + [("login", 0, 0), ["login", 0], ("login", ("p", 0))]
    return wrong
