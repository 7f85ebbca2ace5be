"""The few states that show whether the order of two deeds matters.

If the order of two deeds matters in any state, it matters in one of those that trial_states returns:

- Only deeds that touch the same part of a state can tell: the tree, the shut folders, the entries, or the
  members with the logins. (A move touches the tree and, by "drops", the entries.) So the other parts
  may be as in the blank state.
- Deeds on the same entry or folder, on a person's own members, and moves of one folder to two places, tell it
  in the blank state.
- An "allow" or "bar" hinders a deed on another entry by the limit alone: it takes eleven entries, or
  twelve of which the other deed takes out one, and the put ones are not among them.
- Two moves tell it where one lets the other one happen or keeps it from that. A folder is below another one
  by a line in which, besides these two, at most one named folder matters.
- Members of groups hinder one another likewise; there are but three groups, so a line holds at most three.
  A login tells of a group if the person is at the beginning of the line.
"""

from sawwhen.forms import GROUPS, MOST_ENTRIES

PUTS = ("allow", "bar")
ON_ENTRIES = ("allow", "bar", "clear", "move")
ON_MEMBERS = ("join", "leave", "login")


def lines_of(things):
    """Return the list of all tuples of at most three of the things, each once."""
    lines = [()]
    for length in (1, 2, 3):
        shorter = [line for line in lines if len(line) == length - 1]
        lines = lines + [line + (thing,) for line in shorter for thing in things if thing not in line]
    return lines


def blank_state(people, folders):
    """Return the state in which all folders lie in folder 0 and there is nothing else."""
    return ((0,) * (folders - 1), (False,) * folders, (), (), ((),) * people)


def folder_trials(people, folders, deed, other):
    """Return the states in which some of the folders that are named lie in one another in a line."""
    named = sorted(set([folder for folder in deed[1:] + other[1:] if folder != 0]))
    _, shut, entries, members, logins = blank_state(people, folders)
    trials = []
    for line in lines_of(named):
        parents = [0] * (folders - 1)
        for at in range(1, len(line)):
            parents[line[at] - 1] = line[at - 1]
        trials.append((tuple(parents), shut, entries, members, logins))
    return trials


def _all_who(people):
    return [("g", group) for group in range(GROUPS)] + [("p", person) for person in range(people)]


def _taken_out(deed, folder, who):
    """Whether the deed can take out the entry for the folder and who."""
    if deed[0] == "clear":
        return deed[1:] == (folder, who)
    return deed[0] == "move" and deed[1] == folder


def entry_trials(people, folders, deed, other):
    """Return the states with almost, or just, as many entries as there can be, but not those that are put."""
    puts = [done[1:] for done in (deed, other) if done[0] in PUTS]
    free = [(folder, who) for folder in range(folders) for who in _all_who(people) if (folder, who) not in puts]
    wanted = [spot for spot in free if _taken_out(deed, spot[0], spot[1]) or _taken_out(other, spot[0], spot[1])]
    spots = wanted + [spot for spot in free if spot not in wanted]
    parents, shut, _, members, logins = blank_state(people, folders)
    trials = []
    for many in (MOST_ENTRIES - 1, MOST_ENTRIES):
        if many <= len(spots):
            entries = sorted([(folder, who, "allow") for folder, who in spots[:many]])
            trials.append((parents, shut, tuple(entries), members, logins))
    return trials


def member_trials(people, folders):
    """Return the states in which groups belong to one another in a line, and everybody to its first group."""
    parents, shut, entries, _, logins = blank_state(people, folders)
    trials = []
    for line in lines_of(list(range(GROUPS))):
        members = [(line[at], ("g", line[at - 1])) for at in range(1, len(line))]
        members = members + [(group, ("p", person)) for group in line[:1] for person in range(people)]
        trials.append((parents, shut, entries, tuple(sorted(members)), logins))
    return trials


def trial_states(people, folders, deed, other):
    """Return a list of states among which is one in which the order of the deeds matters, if there is any."""
    words = (deed[0], other[0])
    trials = [blank_state(people, folders)]
    if words == ("move", "move"):
        trials = trials + folder_trials(people, folders, deed, other)
    if words[0] in ON_ENTRIES and words[1] in ON_ENTRIES:
        trials = trials + entry_trials(people, folders, deed, other)
    if words[0] in ON_MEMBERS and words[1] in ON_MEMBERS:
        trials = trials + member_trials(people, folders)
    return trials
