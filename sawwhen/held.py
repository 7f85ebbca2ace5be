"""What must be held apart so that wished outcomes are sure."""

from sawwhen.errors import BadLot, NotSure, TooMany
from sawwhen.forms import ascends, is_number, is_row
from sawwhen.known import need_known
from sawwhen.orders import need_case
from sawwhen.web import Web

MOST_PAIRS = 6
MOST_EVENTS_TO_FORCE = 6
MOST_FORCED = 2


def _is_pair(case, thing):
    """Whether thing, any object, is the numbers of two unlike events of the case."""
    many = len(case[2])
    return is_row(thing, 2) and all([is_number(number, many) for number in thing]) and thing[0] != thing[1]


def _need_lot(case, lot):
    """Raise BadLot if lot is none of the case."""
    if not isinstance(lot, tuple) or not all([_is_pair(case, pair) for pair in lot]) or not ascends(lot):
        raise BadLot("this is no lot")


def _need_pairs(case, pairs):
    """Raise BadLot if pairs is no list of unlike pairs of the case, then TooMany if it holds too many."""
    if not isinstance(pairs, list) or not all([_is_pair(case, pair) for pair in pairs]):
        raise BadLot("this is no list of pairs")
    if len(set(pairs)) < len(pairs):
        raise BadLot("a pair stands twice")
    if len(pairs) > MOST_PAIRS:
        raise TooMany("there are too many pairs")


def _count_kept(case, wishes, lot):
    """Return the number of orders of the lot in which all wished outcomes come about."""
    return Web(case, wishes, lot).order_count()


def _leaves_some(case, lot):
    """Whether the lot leaves an order."""
    return _count_kept(case, (), lot) > 0


def _makes_sure(case, wishes, lot):
    """Whether all orders of the lot have all the wished outcomes."""
    return _count_kept(case, wishes, lot) == _count_kept(case, (), lot)


def held_sure(case, wishes, lot):
    """Whether all orders of the lot have all the wished outcomes, also if it leaves none."""
    need_case(case)
    need_known(case, wishes)
    _need_lot(case, lot)
    return _makes_sure(case, wishes, lot)


def _without(lot, pair):
    return tuple([other for other in lot if other != pair])


def _all_lots(pairs):
    """Return the list of all lots of the pairs, those with fewer pairs first."""
    lots = [()]
    for pair in sorted(pairs):
        lots = lots + [lot + (pair,) for lot in lots]
    return sorted(lots, key=len)


def least_lots(case, wishes, pairs):
    """Return the list, ascending, of all least lots of these pairs by which the wishes are sure."""
    need_case(case)
    need_known(case, wishes)
    _need_pairs(case, pairs)
    sure = {}
    least = []
    for lot in _all_lots(pairs):
        # More pairs leave fewer orders, so what is sure by a part of a lot is sure by the lot.
        by_part = any([sure[_without(lot, pair)] for pair in lot])
        sure[lot] = by_part or _makes_sure(case, wishes, lot)
        if sure[lot] and not by_part and _leaves_some(case, lot):
            least.append(lot)
    return sorted(least)


def orders_against(case, wishes, lot):
    """Return the list, for each pair of the lot, of an order of the lot without it that keeps not all wishes."""
    need_case(case)
    need_known(case, wishes)
    _need_lot(case, lot)
    if not _leaves_some(case, lot) or not _makes_sure(case, wishes, lot):
        raise NotSure("the wishes are not sure by the lot")
    return [_order_against(case, wishes, _without(lot, pair)) for pair in lot]


def _order_against(case, wishes, lot):
    """Return an order of the lot in which some wish is not kept, None if there is none."""
    for number, saw in wishes:
        web = Web(case, ((number, not saw),), lot)
        order = web.order_by(web.further())
        if order is not None:
            return order
    return None


def least_forced(case, wishes):
    """Return the list, ascending, of all lots with as few pairs as any by which the wishes are sure."""
    need_case(case)
    need_known(case, wishes)
    if len(case[2]) > MOST_EVENTS_TO_FORCE:
        raise TooMany("the case has too many events")
    if _count_kept(case, wishes, ()) == 0:
        return []
    numbers = list(range(len(case[2])))
    pairs = [(number, other) for number in numbers for other in numbers if number != other]
    lots = [()]
    for _ in range(MOST_FORCED + 1):
        found = [lot for lot in lots if _makes_sure(case, wishes, lot) and _leaves_some(case, lot)]
        if found:
            return found
        lots = [lot + (pair,) for lot in lots for pair in pairs if lot == () or lot[-1] < pair]
    raise TooMany("more pairs are needed")
