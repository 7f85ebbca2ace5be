"""What known looks tell: the orders that they leave, and why they leave none."""

from sawwhen.errors import BadClash, BadEvent, BadKnown
from sawwhen.forms import ascends, is_number, is_row
from sawwhen.houses import is_state
from sawwhen.looks import is_look_number, looks_of, need_look, word_for
from sawwhen.orders import need_case
from sawwhen.web import Web, numbers_of


def _is_known_look(case, thing):
    """Whether thing, any object, is the number of a look and whether it saw."""
    return is_row(thing, 2) and is_look_number(case, thing[0]) and isinstance(thing[1], bool)


def _is_known(case, thing):
    """Whether thing, any object, is known looks of the case."""
    if not isinstance(thing, tuple) or not all([_is_known_look(case, look) for look in thing]):
        return False
    return ascends([number for number, _ in thing])


def need_known(case, known):
    """Raise BadKnown if known is no known looks of the case."""
    if not _is_known(case, known):
        raise BadKnown("these are no known looks")


def need_event(case, number):
    """Raise BadEvent if number is not that of an event of the case."""
    if not is_number(number, len(case[2])):
        raise BadEvent("this is not the number of an event")


def _web_left(case, known):
    """Return the web of the orders that are left; raise BadCase or BadKnown if one of these is none."""
    need_case(case)
    need_known(case, known)
    return Web(case, known)


def _need_left(web):
    """Raise BadClash if no order is left in the web."""
    if web.order_count() == 0:
        raise BadClash("the known looks leave no order")


def count_left(case, known):
    """Return the number of orders that are left."""
    return _web_left(case, known).order_count()


def count_ahead(case, known, number, other):
    """Return in how many orders that are left the event stands ahead of the other one."""
    web = _web_left(case, known)
    need_event(case, number)
    need_event(case, other)
    if number == other:
        raise BadEvent("these are not two unlike events")
    return sum([count for done, event, _, count in web.used_steps() if event == number and not done >> other & 1])


def order_left(case, known):
    """Return an order that is left, None if there is none."""
    web = _web_left(case, known)
    return web.order_by(web.further())


def pairs_left(case, known):
    """Return the list, ascending, of all (number, other) of which the first is ahead in all orders that are left."""
    web = _web_left(case, known)
    _need_left(web)
    always_ahead = [web.whole for _ in web.events]
    for done, event, _, _ in web.used_steps():
        always_ahead[event] = always_ahead[event] & done
    numbers = list(range(len(web.events)))
    return [(number, other) for number in numbers for other in numbers if always_ahead[other] >> number & 1]


def word_left(case, known, number):
    """Return "always", "never" or "sometimes": in how many orders that are left the look saw."""
    web = _web_left(case, known)
    need_look(case, number)
    _need_left(web)
    return word_for(web.seen_counts()[number], web.order_count())


def state_left(case, known):
    """Return the list, ascending, of all states after the last event in the orders that are left."""
    web = _web_left(case, known)
    return sorted([web.told_place(at)[1] for at in web.ends()])


def bounds_left(case, known):
    """Return the list, for each event, of the least and the greatest moment of it in the orders that are left."""
    web = _web_left(case, known)
    _need_left(web)
    steps = web.used_steps()
    return [_bounds_of(web.events, steps, number) for number in range(len(web.events))]


def _bounds_of(events, steps, number):
    """Return the least and the greatest moment of the event, by the steps that orders take.

    It happens no earlier than anything ahead of it, and no later than anything behind it, but else at any moment.
    """
    done_ahead = [done for done, event, _, _ in steps if event == number]
    rows = list(enumerate(events))
    least = [max([early for at, (_, early, _) in rows if at == number or done >> at & 1]) for done in done_ahead]
    greatest = [min([late for at, (_, _, late) in rows if not done >> at & 1]) for done in done_ahead]
    return (min(least), max(greatest))


def cover(case, known):
    """Return the list, ascending, of the places of the least cover, None if there is none."""
    web = _web_left(case, known)
    if web.ends():
        return None
    return sorted([web.told_place(at) for at in range(len(web.places))])


def cover_holds(case, known, thing):
    """Whether thing, any object, is a cover for the known looks."""
    need_case(case)
    need_known(case, known)
    web = Web(case)
    if not isinstance(thing, list) or not all([_has_place(case, web, place) for place in thing]):
        return False
    held = sorted(set([web.number_of(place[0], place[1]) for place in thing]))
    if 0 not in held or any([web.is_end(at) for at in held]):
        return False
    told = dict(known)
    onward = [to for at in held for event, to, saw in web.steps[at] if told.get(event, saw) == saw]
    return len(set(onward) - set(held)) == 0


def _has_place(case, web, thing):
    """Whether thing, any object, is a place of the web of the case."""
    if not is_row(thing, 2):
        return False
    done, state = thing
    if not isinstance(done, tuple) or not all([is_number(event, len(case[2])) for event in done]):
        return False
    return ascends(done) and is_state(case[0], state) and web.number_of(done, state) is not None


def least_clashes(case, known):
    """Return the list, ascending, of all least parts of the known looks that leave no order."""
    need_case(case)
    need_known(case, known)
    saws = sum([1 << number for number, saw in known if saw])
    # Known looks leave no order if in each order one of them comes out otherwise.
    otherwise = [bits ^ saws for bits in list(Web(case).outcome_counts())]
    parts = [((), 0)]
    for look in known:
        parts = parts + [(part + (look,), bits | (1 << look[0])) for part, bits in parts]
    clashing = {bits: part for part, bits in parts if all([bits & others for others in otherwise])}
    return sorted([clashing[bits] for bits in clashing if _is_least(bits, clashing)])


def _is_least(bits, clashing):
    """Whether the clashing looks, as bits, clash no more with any one of them left out."""
    return not any([bits ^ (1 << number) in clashing for number in numbers_of(bits)])


def asked_next(case, known):
    """Return the list, ascending, of the looks, not known, whose outcome leaves the fewest orders at worst."""
    web = _web_left(case, known)
    _need_left(web)
    told = dict(known)
    count = web.order_count()
    seen = web.seen_counts()
    worst = {number: max(seen[number], count - seen[number]) for number in looks_of(case) if number not in told}
    least = min(worst.values(), default=0)
    return [number for number in worst if worst[number] == least]


def sure_sights(case, known):
    """Return the list, ascending, of all (person, folder) that are seen at some moment in all orders left."""
    web = _web_left(case, known)
    _need_left(web)
    spots = [(person, folder) for person in range(case[0][0]) for folder in range(len(case[0][2]))]
    return [(person, folder) for person, folder in spots if not _can_stay_unseen(web, person, folder)]


def _can_stay_unseen(web, person, folder):
    """Whether in some order of the web the person can see the folder at no moment."""
    return web.further_by([not sees for sees in web.sights(person, folder)])[0] > 0
