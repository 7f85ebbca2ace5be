"""A second, slow reckoning of lots, idle deeds, alike orders and claims, over all orders of a case one by one."""

from itertools import combinations

from reckon import Told, parts_of

# ---- lots


def held_orders(told, lot):
    """What the orders that keep the lot tell."""
    return [one for one in told.told if all(one.ahead(*pair) for pair in lot)]


def all_keep(told, wishes, lot):
    return all(one.keeps(wishes) for one in held_orders(told, lot))


def is_good_lot(told, wishes, lot):
    """Whether the lot leaves an order, and the wishes are sure by it."""
    return bool(held_orders(told, lot)) and all_keep(told, wishes, lot)


def least_lots_of(told, wishes, pairs):
    found = []
    for lot in parts_of(tuple(sorted(pairs))):
        if is_good_lot(told, wishes, lot):
            shorter = [tuple(other for other in lot if other != pair) for pair in lot]
            if not any(is_good_lot(told, wishes, other) for other in shorter):
                found.append(lot)
    return sorted(found)


def least_forced_of(told, wishes):
    """The lots with as few pairs as any, None if more than two are needed."""
    if not any(one.keeps(wishes) for one in told.told):
        return []
    for many in range(3):
        found = [lot for lot in combinations(sorted(told.pairs()), many) if is_good_lot(told, wishes, lot)]
        if found:
            return sorted(found)
    return None


# ---- idle deeds


def changes(told, one, left_out):
    """Whether some other look comes out otherwise in the order if these events are left out."""
    order = tuple(number for number in one.order if number not in left_out)
    without = Told(told.case, order, one.walk[0])
    return any(saw != one.outcomes[number] for number, saw in without.outcomes.items())


def are_idle(told, left_out):
    return not any(changes(told, one, left_out) for one in told.told)


def idle_lots_of(told):
    deeds = tuple(number for number in told.numbers if number not in told.looks)
    idle = [lot for lot in parts_of(deeds) if are_idle(told, lot)]
    return sorted(lot for lot in idle if not any(set(lot) < set(other) for other in idle))


# ---- alike orders


def free_pairs_of(told):
    sure = told.sure_pairs()
    pairs = [pair for pair in told.pairs() if pair[0] < pair[1]]
    return [pair for pair in pairs if pair not in sure and pair[::-1] not in sure]


def exchanged(order, at):
    """The order with the neighbours at this place and the next one exchanged."""
    return order[:at] + (order[at + 1], order[at]) + order[at + 2:]


def swaps_of(told):
    """The free pairs that can be exchanged wherever they are neighbours."""
    ends = {one.order: (one.saw_row(), one.walk[-1]) for one in told.told}
    swaps = []
    for pair in free_pairs_of(told):
        good = True
        for order in ends:
            for at in range(len(order) - 1):
                if set(order[at:at + 2]) == set(pair) and ends[order] != ends[exchanged(order, at)]:
                    good = False
        if good:
            swaps.append(pair)
    return swaps


def alike_to(order, swaps):
    """All orders that exchanges lead to, as a set."""
    found = {order}
    waiting = [order]
    while waiting:
        one = waiting.pop()
        for at in range(len(one) - 1):
            other = exchanged(one, at)
            if tuple(sorted(one[at:at + 2])) in swaps and other not in found:
                found.add(other)
                waiting.append(other)
    return found


def classes_of(told, swaps):
    """The list, ascending, of the classes of alike orders, each as a list, ascending."""
    classes = []
    met = set()
    for order in sorted(told.orders):
        if order not in met:
            alike = alike_to(order, swaps)
            met |= alike
            classes.append(sorted(alike))
    return classes


# ---- claims


def own_row(told, person, one):
    """What the person remembers in the order."""
    return tuple(one.outcomes[number] for number in told.looks if told.case[2][number][0][1] == person)


def groups_of_like(told, person, counted):
    """The dict from what the person remembers to the list of the orders in which they do."""
    groups = {}
    for one in counted:
        groups.setdefault(own_row(told, person, one), []).append(one)
    return groups


def reached_from(told, people, counted, start):
    """How many steps of like orders, at least, lead from the order to each one that they lead to."""
    groups = {person: groups_of_like(told, person, counted) for person in people}
    steps = {start: 0}
    spent = set()
    waiting = [start]
    for one in waiting:
        for person in people:
            key = (person, own_row(told, person, one))
            if key not in spent:
                spent.add(key)
                for other in groups[person][key[1]]:
                    if other not in steps:
                        steps[other] = steps[one] + 1
                        waiting.append(other)
    return steps


def holding(told, claim, counted):
    """The set of those of the counted orders in which the claim holds when only they are counted."""
    word = claim[0]
    if word == "saw":
        return {one for one in counted if one.outcomes[claim[1]]}
    if word == "not":
        return set(counted) - holding(told, claim[1], counted)
    if word == "and":
        return holding(told, claim[1], counted) & holding(told, claim[2], counted)
    if word == "told":
        first = holding(told, claim[1], counted)
        return (set(counted) - first) | holding(told, claim[2], [one for one in counted if one in first])
    held = holding(told, claim[2], counted)
    if word in ("knows", "all"):
        people = (claim[1],) if word == "knows" else claim[1]
        found = set(counted)
        for person in people:
            for group in groups_of_like(told, person, counted).values():
                if not held.issuperset(group):
                    found -= set(group)
        return found
    found = set()
    left = list(counted)
    while left:
        reached = reached_from(told, claim[1], counted, left[0])
        if held.issuperset(reached):
            found |= set(reached)
        left = [one for one in left if one not in reached]
    return found


def looks_known(told, person, one, extra=()):
    """The looks whose outcomes the person knows in the order, if they are told those of the extra ones, too."""
    like = groups_of_like(told, person, told.told)[own_row(told, person, one)]
    like = [other for other in like if all(other.outcomes[look] == one.outcomes[look] for look in extra)]
    return tuple(look for look in told.looks if len({other.outcomes[look] for other in like}) == 1)


def tell_of(told, one, person, number):
    rows = []
    for other in range(told.case[0][0]):
        known = looks_known(told, other, one)
        further = [look for look in looks_known(told, other, one, (number,)) if look not in known and look != number]
        if other != person and further:
            rows.append((other, tuple(further)))
    return rows
