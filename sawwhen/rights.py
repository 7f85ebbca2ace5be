"""Who sees what in a state, for arguments that are known to be good."""

from sawwhen.groups import groups_of


def line_up(parents, folder):
    """Return the list of the folder, its parent, and so on up to folder 0."""
    line = [folder]
    while line[-1] != 0:
        line.append(parents[line[-1] - 1])
    return line


def way_of(parents, shut, folder):
    """Return the list of the folders from which the folder takes rights, itself first."""
    way = []
    for at in line_up(parents, folder):
        way.append(at)
        if shut[at]:
            break
    return way


def counted_groups(rule, state, person):
    """Return the tuple, ascending, of the groups of the person that count by the rule."""
    _, _, known, deep = rule
    if known == "login":
        return state[4][person]
    return groups_of(state[3], ("p", person), deep)


def counts_for(who, person, groups):
    """Whether an entry of who counts for the person, who is in these groups."""
    kind, number = who
    if kind == "p":
        return number == person
    return number in groups


def deciding_entries(rule, state, person, folder):
    """Return the list of the entries that decide whether the person sees the folder, those nearest to it first."""
    parents, shut, entries, _, _ = state
    groups = counted_groups(rule, state, person)
    deciding = []
    for at in way_of(parents, shut, folder):
        for place, who, kind in entries:
            if place == at and counts_for(who, person, groups):
                deciding.append((place, who, kind))
        if deciding and rule[0] == "near":
            break
    return deciding


def person_sees(rule, state, person, folder):
    """Whether the person sees the folder."""
    kinds = [kind for _, _, kind in deciding_entries(rule, state, person, folder)]
    return "allow" in kinds and "bar" not in kinds
