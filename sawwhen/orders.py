"""Cases, their orders, and the places of all orders."""

from sawwhen.errors import BadCase, BadOrder
from sawwhen.forms import is_event, is_number, is_row
from sawwhen.houses import is_house, is_rule
from sawwhen.steps import begin, step
from sawwhen.web import Web, bits_ahead, is_surely_ahead, next_events

MOST_EVENTS = 8


def is_case(thing):
    """Whether thing, any object, is a case."""
    if not is_row(thing, 3):
        return False
    house, rule, events = thing
    if not is_house(house) or not is_rule(rule):
        return False
    if not isinstance(events, tuple) or len(events) > MOST_EVENTS:
        return False
    return all([is_event(event, house[0], len(house[2])) for event in events])


def need_case(case):
    """Raise BadCase if case is none."""
    if not is_case(case):
        raise BadCase("this is no case")


def _is_order(events, thing):
    """Whether thing, any object, is an order of the events."""
    if not is_row(thing, len(events)) or not all([is_number(number, len(events)) for number in thing]):
        return False
    if sorted(thing) != list(range(len(events))):
        return False
    row = [events[number] for number in thing]
    return not any([is_surely_ahead(row[at], row[to]) for at in range(len(row)) for to in range(at)])


def need_order(case, order):
    """Raise BadOrder if order is none of the case."""
    if not _is_order(case[2], order):
        raise BadOrder("this is no order of the case")


def count_orders(case):
    """Return the number of orders."""
    need_case(case)
    ahead = bits_ahead(case[2])
    ways = [1] + [0] * ((1 << len(ahead)) - 1)
    for done in range(len(ways)):
        for event in next_events(ahead, done):
            after = done | (1 << event)
            ways[after] = ways[after] + ways[done]
    return ways[-1]


def sure_pairs(case):
    """Return the list, ascending, of all (number, other) of which the first stands ahead of the other in all orders."""
    need_case(case)
    rows = list(enumerate(case[2]))
    return [(number, other) for number, event in rows for other, behind in rows if is_surely_ahead(event, behind)]


def is_order(case, thing):
    """Whether thing, any object, is an order of the case."""
    need_case(case)
    return _is_order(case[2], thing)


def walk(case, order):
    """Return the list of the states in the order: the first one, and that after each event."""
    need_case(case)
    need_order(case, order)
    house, rule, events = case
    states = [begin(house, rule)]
    for number in order:
        states.append(step(rule, states[-1], events[number][0]))
    return states


def places(case):
    """Return the list, ascending, of all (done, state, ways, further): the places of all orders."""
    need_case(case)
    web = Web(case)
    ways = web.ways()
    further = web.further()
    return sorted([web.told_place(at) + (ways[at], further[at]) for at in range(len(ways))])
