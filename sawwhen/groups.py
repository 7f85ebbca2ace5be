"""Who belongs to which groups, and which joins would close a ring."""


def groups_of(members, who, deep):
    """Return the tuple, ascending, of the groups of who; if deep, also those through other groups."""
    found = [group for group, member in members if member == who]
    at = 0
    while deep and at < len(found):
        for group, member in members:
            if member == ("g", found[at]) and group not in found:
                found.append(group)
        at += 1
    return tuple(sorted(found))


def closes_ring(members, group, who):
    """Whether the group would belong to itself if who joined it."""
    kind, number = who
    if kind == "p":
        return False
    return number == group or number in groups_of(members, ("g", group), True)
