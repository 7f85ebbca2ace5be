"""The states after deeds, and deeds whose order does not matter."""

from sawwhen.errors import BadDeed, BadDeeds
from sawwhen.forms import is_deed
from sawwhen.houses import need_house, need_rule, need_state
from sawwhen.steps import begin, step
from sawwhen.trials import trial_states

MOST_DEEDS = 60


def need_deed(house, deed):
    """Raise BadDeed if deed is none of the house."""
    if not is_deed(deed, house[0], len(house[2])):
        raise BadDeed("this is no deed of the house")


def need_deeds(house, deeds):
    """Raise BadDeeds if deeds is no list of deeds of the house, or too long a one."""
    if not isinstance(deeds, list):
        raise BadDeeds(-1)
    for place, deed in enumerate(deeds):
        if place == MOST_DEEDS or not is_deed(deed, house[0], len(house[2])):
            raise BadDeeds(place)


def after_deed(house, rule, state, deed):
    """Return the state after the deed was done in the state."""
    need_house(house)
    need_rule(rule)
    need_state(house, state)
    need_deed(house, deed)
    return step(rule, state, deed)


def after_deeds(house, rule, deeds):
    """Return the state after the deeds were done, from the first state of the house on."""
    need_house(house)
    need_rule(rule)
    need_deeds(house, deeds)
    state = begin(house, rule)
    for deed in deeds:
        state = step(rule, state, deed)
    return state


def commute(house, rule, deed, other):
    """Return None if the order of the two deeds never matters, else a state in which it does."""
    need_house(house)
    need_rule(rule)
    need_deed(house, deed)
    need_deed(house, other)
    for state in trial_states(house[0], len(house[2]), deed, other):
        ahead = step(rule, step(rule, state, deed), other)
        if ahead != step(rule, step(rule, state, other), deed):
            return state
    return None
