"""Cases, known looks and wrong objects of cases for the tests; all of them come out the same in each run."""

from makers import RULE, RULES, SMALL, WRONG, all_deeds, all_spots, some_house, with_part, wrong_deeds
from makers import wrong_houses, wrong_numbers, wrong_rows, wrong_rules

P0, P1, G0, G1, G2 = ("p", 0), ("p", 1), ("g", 0), ("g", 1), ("g", 2)

# The example of the document: person 0 joins group 0, folder 1 is shut, person 0 looks at folder 1.
JOIN = (("join", 0, P0), 10, 30)
SHUT = (("shut", 1), 20, 40)
LOOK = (("look", 0, 1), 25, 35)
EXAMPLE = (SMALL, RULE, (JOIN, SHUT, LOOK))

# A house for wrong objects: two people, three folders.
HOUSE = (2, (0, 0), (False, False, False), ((0, G0, "allow"),), ((0, P1),))


def case_of(events, rule=RULE, house=SMALL):
    return (house, rule, tuple(events))


def at_once(*whats):
    """Events of which nothing is known but what happened."""
    return tuple((what, 5, 5) for what in whats)


def in_a_row(*whats):
    """Events of which the order is known."""
    return tuple((what, 10 * at, 10 * at + 9) for at, what in enumerate(whats))


def known_of(case, *saws):
    """Known looks: what each of the first looks of the case saw, None for one that is not known."""
    looks = looks_in(case)
    return tuple((number, saw) for number, saw in zip(looks, saws) if saw is not None)


def looks_in(case):
    return [number for number, event in enumerate(case[2]) if event[0][0] == "look"]


def some_bounds(chance, many):
    """Bounds for so many events: all at one moment, neighbours that touch, in a row, or anything."""
    kind = chance.choice(("once", "neighbours", "row", "wide", "any", "any", "any"))
    if kind == "once":
        return [(7, 7)] * many
    if kind == "neighbours":
        return [(at, at + 1) for at in range(many)]
    if kind == "row":
        return [(at, at) for at in chance.sample(range(100), many)]
    if kind == "wide":
        return [(0, 99)] * many
    bounds = []
    for _ in range(many):
        early = chance.randint(0, 6)
        bounds.append((early, early + chance.randint(0, 5)))
    return bounds


def some_what(chance, house, share):
    """A look in so large a share, or else a deed, each word of deeds as often as any other."""
    people, folders = house[0], len(house[2])
    if chance.random() < share:
        return ("look", chance.randrange(people), chance.randrange(folders))
    word = chance.choice(("allow", "bar", "clear", "join", "leave", "move", "shut", "open", "login"))
    return chance.choice([deed for deed in all_deeds(people, folders) if deed[0] == word])


def some_case(chance, most=5, share=None, many=None, people=None, folders=None, rule=None):
    """A case of at most so many events (or so many exactly) in a small house."""
    house = some_house(chance, people or chance.choice((1, 2, 2, 3)), folders or chance.choice((1, 2, 2, 3)),
                       chance.choice((1, 2, 4, 6, 12)))
    many = chance.randint(0, most) if many is None else many
    share = chance.choice((0, 0.3, 0.5, 0.5, 0.8, 1)) if share is None else share
    bounds = some_bounds(chance, many)
    events = tuple((some_what(chance, house, share), early, late) for early, late in bounds)
    return (house, rule or chance.choice(RULES), events)


# Houses, and deeds and looks in them, by which looks see in some orders and not in others.
LIVELY = (
    (SMALL, (("join", 0, P0), ("leave", 0, P0), ("shut", 1), ("open", 1), ("bar", 0, P0), ("clear", 0, P0),
             ("allow", 1, P0), ("leave", 0, P1), ("login", 0)), (("look", 0, 1), ("look", 0, 0), ("look", 1, 1))),
    ((2, (0, 0), (False,) * 3, ((0, G1, "allow"), (1, G0, "allow"), (2, P0, "bar")), ((0, P0), (0, P1))),
     (("join", 1, G0), ("leave", 1, G0), ("leave", 0, P0), ("move", 2, 1), ("move", 1, 2), ("shut", 1),
      ("clear", 2, P0), ("login", 0), ("login", 1)), (("look", 0, 1), ("look", 0, 2), ("look", 1, 1), ("look", 1, 2))),
    ((3, (), (True,), ((0, G0, "allow"), (0, G1, "allow"), (0, G2, "bar")), ()),
     (("join", 0, P0), ("join", 0, P1), ("join", 1, ("p", 2)), ("join", 2, G0), ("join", 2, ("p", 2)), ("leave", 2, G0),
      ("clear", 0, G2), ("login", 0)), (("look", 0, 0), ("look", 1, 0), ("look", 2, 0))),
)


def some_lively_case(chance, most=5, many=None, share=0.5):
    """A case of at most so many events (or so many exactly) in which most looks see in some orders and not in others."""
    house, deeds, looks = chance.choice(LIVELY)
    many = chance.randint(2, most) if many is None else many
    rule = chance.choice(RULES)
    bounds = some_bounds(chance, many) if chance.random() < 0.4 else [(7, 7)] * many
    whats = [chance.choice(looks if chance.random() < share else deeds) for _ in range(many)]
    return (house, rule, tuple((what, early, late) for what, (early, late) in zip(whats, bounds)))


def some_known(chance, case):
    """Known looks of a case, perhaps none or all of them, perhaps such as no order keeps."""
    share = chance.choice((0, 0.4, 0.7, 1))
    return tuple((number, chance.random() < 0.5) for number in looks_in(case) if chance.random() < share)


# Deeds of one entry, of members and logins, and of the limit of entries, all at one moment: as many orders as can be.
FULL = tuple(sorted(spot + ("allow",) for spot in all_spots(2, 3)[:12]))
BROAD = (2, (0, 0), (False,) * 3, ((0, G0, "allow"), (0, G1, "bar"), (1, G2, "allow")), ((0, P1),))

BIG = {
    "deeds alone": (BROAD, ("near", "keeps", "login", True), at_once(
        ("join", 0, P0), ("join", 1, G0), ("join", 2, G1), ("login", 0), ("login", 1), ("leave", 0, P1),
        ("move", 1, 2), ("shut", 2))),
    "deeds and looks": (BROAD, ("bar", "drops", "now", True), at_once(
        ("join", 0, P0), ("look", 0, 1), ("shut", 1), ("look", 0, 1), ("open", 1), ("look", 1, 0),
        ("bar", 0, P1), ("clear", 0, P1))),
    "looks by login": (BROAD, ("bar", "keeps", "login", False), at_once(
        ("join", 0, P0), ("login", 0), ("look", 0, 0), ("leave", 0, P0), ("look", 0, 1), ("login", 0),
        ("bar", 1, P0), ("look", 1, 1))),
    "looks alone": (BROAD, ("near", "keeps", "now", False), at_once(*[("look", at % 2, at % 3) for at in range(8)])),
    "the limit of entries": ((2, (0, 0), (False,) * 3, FULL[:9], ()), ("bar", "drops", "now", True), at_once(
        ("allow", 2, P0), ("bar", 2, P1), ("clear", 0, G0), ("allow", 2, G2), ("move", 1, 2), ("bar", 2, G1),
        ("look", 0, 2), ("look", 1, 1))),
    "moves": ((1, (0, 0, 0, 0, 0), (False,) * 6, tuple((at, P0, "bar") for at in range(1, 6)), ()),
              ("near", "drops", "now", True), at_once(
        ("move", 1, 2), ("move", 2, 3), ("move", 3, 4), ("move", 4, 5), ("move", 5, 1), ("move", 1, 0),
        ("move", 3, 1), ("allow", 0, P0))),
}


def wrong_bounds():
    """Pairs that are no bounds of an event."""
    wrong = [(early, 50) for early in wrong_numbers(100)] + [(50, late) for late in wrong_numbers(100)]
    return wrong + [(1, 0), (99, 98), (51, 50), (-1, -1), (100, 100), (0, 100), (-1, 99), (False, 0), (0, True)]


def wrong_looks():
    """Objects that are no look of a house with two people and three folders."""
    wrong = [("look", person, 0) for person in wrong_numbers(2)] + [("look", 0, folder) for folder in wrong_numbers(3)]
    wrong += [("look",), ("look", 0), ("look", 0, 0, True), ["look", 0, 0], ("LOOK", 0, 0), ("looks", 0, 0)]
    return wrong + [(b"look", 0, 0), (("look",), 0, 0), ("look", P0, 0), ("look", 0, G0), ("look", (0, 0)), ("", 0, 0)]


def wrong_events():
    """Objects that are no event of a house with two people and three folders."""
    good = (("shut", 0), 3, 7)
    wrong = list(WRONG) + wrong_rows(good) + [(("shut", 0),), ("shut", 0, 3, 7), ("shut", 3, 7), (("shut", 0), (3, 7))]
    wrong += [(what, 3, 7) for what in wrong_looks() + [deed for deed in wrong_deeds() if deed != ("look", 0, 0)]]
    return wrong + [(what,) + bounds for what in (("look", 0, 0), ("shut", 0)) for bounds in wrong_bounds()]


def wrong_cases():
    """Objects that are no case."""
    event = (("shut", 0), 3, 7)
    good = (HOUSE, RULE, (event,))
    wrong = list(WRONG) + wrong_rows(good) + [HOUSE, RULE, (event,), (HOUSE, RULE) + (event,) * 2]
    wrong += [with_part(good, 0, house) for house in wrong_houses()]
    wrong += [with_part(good, 1, rule) for rule in wrong_rules()]
    events = [[event], None, True, 0, "", event, {0: event}, (event,) * 9, (event,) * 12, [], {}, ((),), (None,)]
    wrong += [with_part(good, 2, many) for many in events]
    wrong += [with_part(good, 2, (one,)) for one in wrong_events()]
    # The wrong event stands behind good ones; and what is good in a larger house is not in a smaller one.
    wrong += [with_part(good, 2, (event, (("look", 0, 0), 0, 99), one)) for one in wrong_events()[::9]]
    return wrong + [(SMALL, RULE, ((("shut", 2), 3, 7),)), (SMALL, RULE, ((("look", 0, 2), 3, 7),))]


def wrong_orders(case):
    """Objects that are no order of a case of at least two events."""
    many = len(case[2])
    good = tuple(range(many))
    wrong = list(WRONG) + [list(good), good[1:], good + (many,), good + (0,), (0,) * many, (good,), [good]]
    wrong += [dict(enumerate(good))]
    wrong += [good[:-1] + (thing,) for thing in wrong_numbers(many)]
    return wrong + [tuple(str(at) for at in good), "".join(str(at) for at in good), tuple(at + 1 for at in good),
                    (False, True) + good[2:], (True, False) + good[2:], good[:-1] + (good[-2],), range(many)]


def wrong_knowns(case):
    """Objects that are no known looks of a case of at least two looks and a deed."""
    looks = looks_in(case)
    deeds = [number for number in range(len(case[2])) if number not in looks]
    first, second = (looks[0], True), (looks[1], False)
    wrong = [thing for thing in WRONG if thing != ()] + wrong_rows(first)[:4] + [first, [first], [first, second]]
    wrong += [(second, first), (first, first), (first, (looks[0], False))]
    wrong += [(first, second, second), (first, second, first)]
    wrong += [(list(first),), (first, list(second)), {looks[0]: True}, (first, None), (None,), ((),), (first, ())]
    wrong += [((looks[0],),), (first + (True,),), ((True, looks[0]),), ((looks[0], looks[1]),), ("ab",), (looks[0],)]
    wrong += [((number, saw),) for number in deeds for saw in (True, False)]
    wrong += [((number, True),) for number in wrong_numbers(len(case[2]))]
    return wrong + [((looks[0], saw),) for saw in (0, 1, None, "", "True", (), [], (True,), "always")]


def wrong_events_of(case):
    """Objects that are not the number of an event of the case."""
    return wrong_numbers(len(case[2])) + [case[2][0], "look"]


def wrong_look_numbers(case):
    """Objects that are not the number of a look of the case."""
    return wrong_events_of(case) + [number for number in range(len(case[2])) if number not in looks_in(case)]
