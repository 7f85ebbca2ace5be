"""What claims are, and in which worlds they hold.

A world is the outcomes that some order has, as the bits of the looks that saw: what anybody knows or claims is the
same in all orders of a world. A person tells worlds apart by the bits of their own looks. Worlds in which something
holds are kept as a dict of True.
"""

from sawwhen.forms import ascends, is_number
from sawwhen.looks import is_look_number, looks_of

MOST_DEEP = 6
MOST_CLAIMS = 60

CLAIM_PARTS = {
    "saw": ("look",),
    "not": ("claim",),
    "and": ("claim", "claim"),
    "knows": ("person", "claim"),
    "all": ("people", "claim"),
    "common": ("people", "claim"),
    "told": ("claim", "claim"),
}


def is_people(thing, people):
    """Whether thing, any object, is a tuple of persons, at least one, of so many people."""
    if not isinstance(thing, tuple) or len(thing) == 0:
        return False
    return all([is_number(person, people) for person in thing]) and ascends(thing)


def _is_plain_part(case, thing, name):
    """Whether thing, any object, is a part of a claim, of this name, that is no claim itself."""
    if name == "look":
        return is_look_number(case, thing)
    if name == "person":
        return is_number(thing, case[0][0])
    return is_people(thing, case[0][0])


def _count_claims(case, thing, deep):
    """Return how many claims stand in thing, itself among them, 0 if it is none that is at most so deep."""
    if deep == 0 or not isinstance(thing, tuple) or len(thing) == 0:
        return 0
    word = thing[0]
    if not isinstance(word, str) or word not in CLAIM_PARTS:
        return 0
    names = CLAIM_PARTS[word]
    if len(thing) != len(names) + 1:
        return 0
    counts = [1]
    for part, name in zip(thing[1:], names):
        if name == "claim":
            counts.append(_count_claims(case, part, deep - 1))
        elif not _is_plain_part(case, part, name):
            counts.append(0)
    return 0 if 0 in counts else sum(counts)


def is_claim_of(case, thing):
    """Whether thing, any object, is a claim of the case."""
    return 1 <= _count_claims(case, thing, MOST_DEEP) <= MOST_CLAIMS


def own_looks(case):
    """Return the list, for each person, of their own looks, as bits."""
    bits = [0] * case[0][0]
    for number in looks_of(case):
        person = case[2][number][0][1]
        bits[person] = bits[person] | (1 << number)
    return bits


def known_by(own, worlds, held):
    """Return the worlds in which one who knows the bits of own knows that the held ones hold."""
    doubted = {world & own: True for world in worlds if world not in held}
    return {world: True for world in worlds if world & own not in doubted}


def known_by_all(people, worlds, held, owns):
    """Return the worlds in which each of the people knows that the held ones hold."""
    rows = [known_by(owns[person], worlds, held) for person in people]
    return {world: True for world in worlds if all([world in row for row in rows])}


def _where_saw(claim, worlds, owns):
    return {world: True for world in worlds if world >> claim[1] & 1}


def _where_not(claim, worlds, owns):
    held = where(claim[1], worlds, owns)
    return {world: True for world in worlds if world not in held}


def _where_and(claim, worlds, owns):
    held = where(claim[1], worlds, owns)
    others = where(claim[2], worlds, owns)
    return {world: True for world in held if world in others}


def _where_knows(claim, worlds, owns):
    return known_by(owns[claim[1]], worlds, where(claim[2], worlds, owns))


def _where_all(claim, worlds, owns):
    return known_by_all(claim[1], worlds, where(claim[2], worlds, owns), owns)


def _where_common(claim, worlds, owns):
    held = known_by_all(claim[1], worlds, where(claim[2], worlds, owns), owns)
    fewer = known_by_all(claim[1], worlds, held, owns)
    # What all know holds, so the worlds only get fewer, until all know no less than that they know it.
    while len(fewer) < len(held):
        held = fewer
        fewer = known_by_all(claim[1], worlds, held, owns)
    return held


def _where_told(claim, worlds, owns):
    held = where(claim[1], worlds, owns)
    others = where(claim[2], held, owns)
    return {world: True for world in worlds if world not in held or world in others}


WHERES = {
    "saw": _where_saw,
    "not": _where_not,
    "and": _where_and,
    "knows": _where_knows,
    "all": _where_all,
    "common": _where_common,
    "told": _where_told,
}


def where(claim, worlds, owns):
    """Return those of the worlds in which the claim holds when only these worlds are counted.

    owns is the list, for each person, of their own looks, as bits.
    """
    found = WHERES[claim[0]]
    return found(claim, worlds, owns)
