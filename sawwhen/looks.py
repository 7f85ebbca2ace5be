"""What looks saw, and who could see what at some moment, over all orders of a case."""

from sawwhen.errors import BadLook
from sawwhen.forms import is_number
from sawwhen.houses import need_folder, need_person
from sawwhen.orders import count_orders, need_case, walk
from sawwhen.rights import person_sees
from sawwhen.web import Web


def looks_of(case):
    """Return the list, ascending, of the numbers of the looks of the case."""
    return [number for number, event in enumerate(case[2]) if event[0][0] == "look"]


def is_look_number(case, thing):
    """Whether thing, any object, is the number of a look of the case."""
    return is_number(thing, len(case[2])) and thing in looks_of(case)


def need_look(case, number):
    """Raise BadLook if number is not that of a look of the case."""
    if not is_look_number(case, number):
        raise BadLook("this is not the number of a look")


def outcomes(case, order):
    """Return the list, for each look, ascending, of (number, whether the person saw the folder in the order)."""
    states = walk(case, order)
    found = []
    for number in looks_of(case):
        _, person, folder = case[2][number][0]
        found.append((number, person_sees(case[1], states[order.index(number)], person, folder)))
    return found


def outcome_rows(case):
    """Return the list, ascending, of all (saw, count, order) for the outcomes that some orders have."""
    need_case(case)
    numbers = looks_of(case)
    rows = []
    for bits, (count, order) in Web(case).outcome_counts().items():
        rows.append((tuple([bits >> number & 1 == 1 for number in numbers]), count, order))
    return sorted(rows)


def word_for(seen, count):
    """Return the word for a look that saw in so many of the orders that there are."""
    if seen == 0:
        return "never"
    return "always" if seen == count else "sometimes"


def look_word(case, number):
    """Return "always", "never" or "sometimes": in how many orders the look saw."""
    seen = count_seen(case, number)
    return word_for(seen, count_orders(case))


def look_orders(case, number):
    """Return an order in which the look saw, and one in which it did not, None for one that there is not."""
    need_case(case)
    need_look(case, number)
    seen = Web(case, ((number, True),))
    unseen = Web(case, ((number, False),))
    return (seen.order_by(seen.further()), unseen.order_by(unseen.further()))


def count_seen(case, number):
    """Return the number of orders in which the look saw."""
    need_case(case)
    need_look(case, number)
    return Web(case, ((number, True),)).order_count()


def _need_spot(case, person, folder):
    """Raise BadCase, BadPerson or BadFolder if one of these is none."""
    need_case(case)
    need_person(case[0], person)
    need_folder(case[0], folder)


def sight_word(case, person, folder):
    """Return in which orders the person can see the folder at some moment: "every", "none" or "some"."""
    order, other = sight_orders(case, person, folder)
    if order is None:
        return "none"
    return "every" if other is None else "some"


def sight_orders(case, person, folder):
    """Return an order in which the person can see the folder at some moment, and one without, None for no such."""
    _need_spot(case, person, folder)
    web = Web(case)
    seen = web.sights(person, folder)
    some_ahead = list(seen)
    for at in reversed(range(len(seen))):
        some_ahead[at] = seen[at] or any([some_ahead[to] for _, to, _ in web.steps[at]])
    return (web.order_by(some_ahead), web.order_by(web.further_by([not sees for sees in seen])))


def longest_sights(case, person, folder):
    """Return the length, less 1, of the longest run of states in which the person sees the folder, None for none."""
    _need_spot(case, person, folder)
    web = Web(case)
    seen = web.sights(person, folder)
    runs = [1 if sees else 0 for sees in seen]
    for at, row in enumerate(web.steps):
        for _, to, _ in row:
            if seen[to]:
                runs[to] = max(runs[to], runs[at] + 1)
    longest = max(runs)
    return longest - 1 if longest else None
