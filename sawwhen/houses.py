"""Houses, rules and states, and who sees which folders in a state."""

from sawwhen.errors import BadFolder, BadHouse, BadPerson, BadRule, BadState
from sawwhen.forms import MOST_PEOPLE, fit_together, is_integer, is_logins, is_number, is_row, is_word
from sawwhen.rights import person_sees
from sawwhen.steps import begin


def is_house(thing):
    """Whether thing, any object, is a house."""
    if not is_row(thing, 5):
        return False
    people, parents, shut, entries, members = thing
    return is_integer(people, 1, MOST_PEOPLE) and fit_together(people, parents, shut, entries, members)


def is_rule(thing):
    """Whether thing, any object, is a rule."""
    if not is_row(thing, 4):
        return False
    first, moving, known, deep = thing
    if not is_word(first, ("bar", "near")) or not is_word(moving, ("keeps", "drops")):
        return False
    return is_word(known, ("now", "login")) and isinstance(deep, bool)


def is_state(house, thing):
    """Whether thing, any object, is a state of a house with as many people and folders."""
    if not is_row(thing, 5):
        return False
    parents, shut, entries, members, logins = thing
    if not is_row(parents, len(house[1])):
        return False
    return fit_together(house[0], parents, shut, entries, members) and is_logins(logins, house[0])


def need_house(house):
    """Raise BadHouse if house is none."""
    if not is_house(house):
        raise BadHouse("this is no house")


def need_rule(rule):
    """Raise BadRule if rule is none."""
    if not is_rule(rule):
        raise BadRule("this is no rule")


def need_state(house, state):
    """Raise BadState if state is none of such a house."""
    if not is_state(house, state):
        raise BadState("this is no state of such a house")


def need_person(house, person):
    """Raise BadPerson if person is none of the house."""
    if not is_number(person, house[0]):
        raise BadPerson("this is no person of the house")


def need_folder(house, folder):
    """Raise BadFolder if folder is none of the house."""
    if not is_number(folder, len(house[2])):
        raise BadFolder("this is no folder of the house")


def need_view(house, rule, state, person, folder):
    """Raise the error that is named for the first of these that is not as it should be."""
    need_house(house)
    need_rule(rule)
    need_state(house, state)
    need_person(house, person)
    need_folder(house, folder)


def first_state(house, rule):
    """Return the state of the house in which everybody has just logged in."""
    need_house(house)
    need_rule(rule)
    return begin(house, rule)


def sees(house, rule, state, person, folder):
    """Whether the person sees the folder in the state."""
    need_view(house, rule, state, person, folder)
    return person_sees(rule, state, person, folder)


def all_sights(house, rule, state):
    """Return the list, ascending, of all (person, folder) that are seen in the state."""
    need_house(house)
    need_rule(rule)
    need_state(house, state)
    spots = [(person, folder) for person in range(house[0]) for folder in range(len(house[2]))]
    return [(person, folder) for person, folder in spots if person_sees(rule, state, person, folder)]
