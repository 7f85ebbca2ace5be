"""Why a person sees a folder, or does not."""

from sawwhen.forms import is_same
from sawwhen.houses import need_view
from sawwhen.rights import counted_groups, deciding_entries, way_of


def _group_chains(members, person, deep):
    """Return the list of all chains of groups that begin with the person."""
    chains = [(group,) for group, member in members if member == ("p", person)]
    at = 0
    while deep and at < len(chains):
        for group, member in members:
            if member == ("g", chains[at][-1]):
                chains.append(chains[at] + (group,))
        at += 1
    return chains


def _chains_to(rule, state, person, who):
    """Return the list of the chains by which the person comes to who."""
    kind, number = who
    if kind == "p":
        return [()] if number == person else []
    if rule[2] == "login":
        return [(group,) for group in state[4][person] if group == number]
    return [chain for chain in _group_chains(state[3], person, rule[3]) if chain[-1] == number]


def _all_reasons(rule, state, person, folder):
    """Return the list of all reasons that hold."""
    deciding = deciding_entries(rule, state, person, folder)
    if not deciding:
        return [("nothing", tuple(way_of(state[0], state[1], folder)), counted_groups(rule, state, person))]
    barred = any([kind == "bar" for _, _, kind in deciding])
    word, decides = ("barred", "bar") if barred else ("sees", "allow")
    spots = [(at, who) for at, who, kind in deciding if kind == decides]
    return [(word, at, who, chain) for at, who in spots for chain in _chains_to(rule, state, person, who)]


def reason_for(house, rule, state, person, folder):
    """Return a reason that holds for why the person sees the folder in the state, or does not."""
    need_view(house, rule, state, person, folder)
    return _all_reasons(rule, state, person, folder)[0]


def reason_holds(house, rule, state, person, folder, reason):
    """Whether the reason, any object, is one that holds."""
    need_view(house, rule, state, person, folder)
    return any([is_same(reason, known) for known in _all_reasons(rule, state, person, folder)])
