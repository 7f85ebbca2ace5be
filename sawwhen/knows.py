"""Who knows what: claims about what looks saw and about what people know of it."""

from sawwhen.claims import is_claim_of, is_people, own_looks, where
from sawwhen.errors import BadClaim, BadLook, BadPeople
from sawwhen.houses import need_person
from sawwhen.looks import is_look_number, looks_of, outcomes, word_for
from sawwhen.orders import need_case, need_order
from sawwhen.web import Web


def _need_claim(case, claim):
    """Raise BadClaim if claim is none of the case."""
    if not is_claim_of(case, claim):
        raise BadClaim("this is no claim")


def _need_people(case, people):
    """Raise BadPeople if people is no tuple of persons of the case."""
    if not is_people(people, case[0][0]):
        raise BadPeople("these are no people")


def _all_worlds(case):
    """Return the dict from each world, ascending, to an order of it."""
    counts = Web(case).outcome_counts()
    return {bits: counts[bits][1] for bits in sorted(counts)}


def _world_of(case, order):
    """Return the world of the order."""
    return sum([1 << number for number, saw in outcomes(case, order) if saw])


def is_claim(case, thing):
    """Whether thing, any object, is a claim of the case."""
    need_case(case)
    return is_claim_of(case, thing)


def claim_holds(case, order, claim):
    """Whether the claim holds in the order."""
    need_case(case)
    need_order(case, order)
    _need_claim(case, claim)
    return _world_of(case, order) in where(claim, _all_worlds(case), own_looks(case))


def claim_word(case, claim):
    """Return "always", "never" or "sometimes": in how many orders the claim holds."""
    need_case(case)
    _need_claim(case, claim)
    worlds = _all_worlds(case)
    return word_for(len(where(claim, worlds, own_looks(case))), len(worlds))


def claim_orders(case, claim):
    """Return an order in which the claim holds, and one in which it does not, None for one that there is not."""
    need_case(case)
    _need_claim(case, claim)
    worlds = _all_worlds(case)
    held = where(claim, worlds, own_looks(case))
    holding = [worlds[world] for world in held]
    others = [worlds[world] for world in worlds if world not in held]
    return (holding[0] if holding else None, others[0] if others else None)


def doubt(case, order, person, claim):
    """Return an order like it to the person in which the claim does not hold, None if the person knows it."""
    need_case(case)
    need_order(case, order)
    need_person(case[0], person)
    _need_claim(case, claim)
    worlds = _all_worlds(case)
    owns = own_looks(case)
    held = where(claim, worlds, owns)
    for world in _like_worlds(worlds, owns[person], _world_of(case, order)):
        if world not in held:
            return worlds[world]
    return None


def _like_worlds(worlds, own, world):
    """Return the list of those of the worlds that are like the world to one who knows the bits of own."""
    return [other for other in worlds if other & own == world & own]


def chain_to(case, order, people, claim):
    """Return a shortest list of (person, order), each like the one ahead, to where the claim does not hold, or None."""
    need_case(case)
    need_order(case, order)
    _need_people(case, people)
    _need_claim(case, claim)
    worlds = _all_worlds(case)
    owns = own_looks(case)
    held = where(claim, worlds, owns)
    waiting = [_world_of(case, order)]
    chains = {waiting[0]: []}
    at = 0
    while at < len(waiting):
        world = waiting[at]
        if world not in held:
            return chains[world]
        for person in people:
            for other in _like_worlds(worlds, owns[person], world):
                if other not in chains:
                    chains[other] = chains[world] + [(person, worlds[other])]
                    waiting.append(other)
        at += 1
    return None


def _looks_known(case, worlds, own, world):
    """Return the list, ascending, of the looks whose outcomes one who knows the bits of own knows in the world."""
    like = _like_worlds(worlds, own, world)
    return [number for number in looks_of(case) if all([(other ^ world) >> number & 1 == 0 for other in like])]


def learns(case, order, person):
    """Return the tuple, ascending, of the looks whose outcomes the person knows in the order."""
    need_case(case)
    need_order(case, order)
    need_person(case[0], person)
    return tuple(_looks_known(case, _all_worlds(case), own_looks(case)[person], _world_of(case, order)))


def tell(case, order, person, number):
    """Return the list, ascending, of (person, looks) for others whom the look's outcome would tell of further looks."""
    learned = learns(case, order, person)
    if not is_look_number(case, number) or number not in learned:
        raise BadLook("this is not the number of a look that the person knows")
    worlds = _all_worlds(case)
    world = _world_of(case, order)
    told = []
    for other, own in enumerate(own_looks(case)):
        known = _looks_known(case, worlds, own, world)
        then = _looks_known(case, worlds, own | (1 << number), world)
        further = tuple([look for look in then if look not in known and look != number])
        if other != person and further:
            told.append((other, further))
    return told
