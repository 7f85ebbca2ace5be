"""Deeds that never matter, events whose order never matters, and orders that are alike."""

from sawwhen.errors import TooMany
from sawwhen.known import need_event
from sawwhen.looks import looks_of, outcomes
from sawwhen.orders import need_case, need_order
from sawwhen.results import Results
from sawwhen.twins import Twins
from sawwhen.web import Web, bits_ahead, is_surely_ahead, next_events, numbers_of, with_pairs

MOST_EVENTS_TO_PART = 6
MOST_CLASSES = 100


def _need_few_events(case):
    """Raise TooMany if the case has more events than can be gone through."""
    if len(case[2]) > MOST_EVENTS_TO_PART:
        raise TooMany("the case has too many events")


def _order_with(results, left_out):
    """Return an order in which some look comes out otherwise if the events, as bits, are left out, or None."""
    return Twins(results, results, left_out=left_out).parting_order()


def idle_events(case):
    """Return the list, ascending, of the events without which all other looks have the same outcomes."""
    need_case(case)
    results = Results(case)
    return [number for number in range(len(case[2])) if _order_with(results, 1 << number) is None]


def _is_part(bits, others):
    """Whether the numbers in bits are some, but not all, of the others."""
    return bits != others and bits & others == bits


def idle_lots(case):
    """Return the list, ascending, of the longest tuples of deeds that are idle together."""
    need_case(case)
    _need_few_events(case)
    results = Results(case)
    looks = sum([1 << number for number in looks_of(case)])
    deeds = [bits for bits in range(1 << len(case[2])) if bits & looks == 0]
    idle = [bits for bits in deeds if _order_with(results, bits) is None]
    longest = [bits for bits in idle if not any([_is_part(bits, others) for others in idle])]
    return sorted([numbers_of(bits) for bits in longest])


def parting_order(case, number):
    """Return an order in which leaving the event out changes some outcome, None if it is idle."""
    need_case(case)
    need_event(case, number)
    return _order_with(Results(case), 1 << number)


def _free_pairs(events):
    """Return the list, ascending, of all pairs of events of which neither is surely ahead of the other."""
    rows = list(enumerate(events))
    return [
        (number, other) for number, event in rows for other, behind in rows
        if number < other and not is_surely_ahead(event, behind) and not is_surely_ahead(behind, event)
    ]


def _needed(case):
    """Return the list, ascending, of the pairs that cannot be exchanged, all of which are free."""
    web = Web(case)
    twins = Twins(web.results, web.results, ends_tell=True)
    told = {}
    for at, row in enumerate(web.steps):
        events = [event for event, _, _ in row]
        for pair in [(number, other) for number in events for other in events if number < other]:
            if pair not in told and _tells(web.results, twins, web.places[at], pair):
                told[pair] = True
    return sorted(told)


def _tells(results, twins, place, pair):
    """Whether it can be told from outcomes or from the last state which of the pair came first from the place on."""
    done, state = place
    number, other = pair
    first, saw_first = results.after(number, state)
    both, saw_second = results.after(other, first)
    second, seen_first = results.after(other, state)
    turned, seen_second = results.after(number, second)
    if saw_first != seen_second or saw_second != seen_first:
        return True
    return twins.can_part((done | (1 << number) | (1 << other), both, turned))


def swap_pairs(case):
    """Return the list, ascending, of the free pairs that can be exchanged wherever they are neighbours."""
    need_case(case)
    needed = _needed(case)
    return [pair for pair in _free_pairs(case[2]) if pair not in needed]


def needed_pairs(case):
    """Return the list, ascending, of the free pairs that cannot be exchanged wherever they are neighbours."""
    need_case(case)
    return _needed(case)


def _ways_round(needed, order):
    """Return the tuple of the needed pairs, each as it stands in the order."""
    rank = {number: at for at, number in enumerate(order)}
    return tuple([(number, other) if rank[number] < rank[other] else (other, number) for number, other in needed])


def _are_alike(case, order, other):
    """Whether the orders are alike; raise an error if one of these is none."""
    need_case(case)
    need_order(case, order)
    need_order(case, other)
    needed = _needed(case)
    return _ways_round(needed, order) == _ways_round(needed, other)


def orders_alike(case, order, other):
    """Whether exchanges of neighbours that are swap pairs lead from the order to the other one."""
    return _are_alike(case, order, other)


def swap_path(case, order, other):
    """Return the list of the orders from the first to the other one, each by one exchange, None if not alike."""
    if not _are_alike(case, order, other):
        return None
    rank = {number: at for at, number in enumerate(other)}
    path = [order]
    while path[-1] != other:
        path.append(_exchanged(path[-1], rank))
    return path


def _exchanged(order, rank):
    """Return the order with the first two neighbours exchanged that stand otherwise by rank."""
    at = min([at for at in range(1, len(order)) if rank[order[at - 1]] > rank[order[at]]])
    return order[:at - 1] + (order[at], order[at - 1]) + order[at + 1:]


def least_alike(case, order):
    """Return the least order that is alike."""
    need_case(case)
    need_order(case, order)
    ahead = with_pairs(bits_ahead(case[2]), _ways_round(_needed(case), order))
    least = []
    done = 0
    for _ in order:
        least.append(next_events(ahead, done)[0])
        done = done | (1 << least[-1])
    return tuple(least)


def _all_orders(case):
    """Return the list, ascending, of all orders."""
    ahead = bits_ahead(case[2])
    orders = [()]
    for _ in case[2]:
        orders = [
            order + (event,) for order in orders for event in next_events(ahead, sum([1 << number for number in order]))
        ]
    return orders


def order_classes(case):
    """Return the list, ascending, of (least order, how many are alike to it, its outcomes) for each class."""
    need_case(case)
    _need_few_events(case)
    needed = _needed(case)
    classes = {}
    for order in _all_orders(case):
        least, count = classes.get(_ways_round(needed, order), (order, 0))
        classes[_ways_round(needed, order)] = (least, count + 1)
    if len(classes) > MOST_CLASSES:
        raise TooMany("there are too many classes")
    return sorted([(least, count, outcomes(case, least)) for least, count in classes.values()])
