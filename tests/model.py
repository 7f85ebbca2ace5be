"""A second, slow telling of houses and deeds, over dicts and sets, against which the program is held."""

LIMIT = 12


def belongs_to(members, who):
    """All groups that who belongs to, also through others, as a set."""
    found = set()
    waiting = [who]
    while waiting:
        at = waiting.pop()
        for group, member in members:
            if member == at and group not in found:
                found.add(group)
                waiting.append(("g", group))
    return found


def groups_at(members, who, deep):
    if deep:
        return belongs_to(members, who)
    return {group for group, member in members if member == who}


def ringless(members):
    return not any(group in belongs_to(members, ("g", group)) for group in range(3))


class Model:
    """A state that is changed in place by deeds."""

    def __init__(self, rule, state):
        parents, shut, entries, members, logins = state
        self.first, self.moving, self.known, self.deep = rule
        self.above = {at + 1: parent for at, parent in enumerate(parents)}
        self.closed = {at for at, flag in enumerate(shut) if flag}
        self.folders = len(shut)
        self.rights = {(folder, who): kind for folder, who, kind in entries}
        self.members = set(members)
        self.logins = [set(groups) for groups in logins]

    def state(self):
        return (
            tuple(self.above[at] for at in range(1, self.folders)),
            tuple(at in self.closed for at in range(self.folders)),
            tuple(sorted((folder, who, kind) for (folder, who), kind in self.rights.items())),
            tuple(sorted(self.members)),
            tuple(tuple(sorted(groups)) for groups in self.logins),
        )

    def inside(self, folder, other):
        """Whether the folder is the other one or lies below it."""
        return folder == other or (folder in self.above and self.inside(self.above[folder], other))

    def do(self, deed):
        getattr(self, "do_" + deed[0])(*deed[1:])

    def do_allow(self, folder, who):
        if (folder, who) in self.rights or len(self.rights) < LIMIT:
            self.rights[folder, who] = "allow"

    def do_bar(self, folder, who):
        if (folder, who) in self.rights or len(self.rights) < LIMIT:
            self.rights[folder, who] = "bar"

    def do_clear(self, folder, who):
        self.rights.pop((folder, who), None)

    def do_join(self, group, who):
        if ringless(self.members | {(group, who)}):
            self.members.add((group, who))

    def do_leave(self, group, who):
        self.members.discard((group, who))

    def do_move(self, folder, parent):
        if folder == 0 or self.inside(parent, folder):
            return
        self.above[folder] = parent
        if self.moving == "drops":
            self.rights = {spot: kind for spot, kind in self.rights.items() if spot[0] != folder}

    def do_shut(self, folder):
        self.closed.add(folder)

    def do_open(self, folder):
        self.closed.discard(folder)

    def do_login(self, person):
        self.logins[person] = groups_at(self.members, ("p", person), self.deep)

    def sees(self, person, folder):
        groups = self.logins[person]
        if self.known == "now":
            groups = groups_at(self.members, ("p", person), self.deep)
        mine = [("p", person)] + [("g", group) for group in groups]
        found = []
        at = folder
        while at is not None:
            here = {self.rights[at, who] for who in mine if (at, who) in self.rights}
            if here:
                found.append(here)
            at = None if at in self.closed else self.above.get(at)
        if self.first == "near":
            found = found[:1]
        kinds = set().union(*found)
        return kinds == {"allow"}


def model_after(rule, state, deeds):
    model = Model(rule, state)
    for deed in deeds:
        model.do(deed)
    return model.state()


def model_first(house, rule):
    """The state of a house in which everybody has just logged in."""
    people, parents, shut, entries, members = house
    logins = tuple(tuple(sorted(groups_at(members, ("p", at), rule[3]))) for at in range(people))
    return (parents, shut, entries, members, logins)


def model_commutes(rule, state, deed, other):
    return model_after(rule, state, [deed, other]) == model_after(rule, state, [other, deed])
