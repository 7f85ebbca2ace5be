"""A live house, in which deeds and looks are done one after another."""

from sawwhen.deeds import need_deed, need_deeds
from sawwhen.errors import BadSpread, Full, NothingToUndo
from sawwhen.forms import is_integer, is_number, is_row
from sawwhen.houses import need_folder, need_house, need_person, need_rule
from sawwhen.orders import MOST_EVENTS
from sawwhen.rights import person_sees
from sawwhen.steps import begin, step

MOST_ENTRIES_OF_LOG = 200
MOST_SPREAD = 30
FIRST_MOMENT = 30
BETWEEN_MOMENTS = 5


def _deeds_of(log):
    """Return the list of the entries of the log that are deeds."""
    return [entry for entry in log if entry[0] != "look"]


class House:
    """A house, a rule and what was done: deeds, and looks with what they saw."""

    def __init__(self, house, rule=("bar", "keeps", "now", True)):
        need_house(house)
        need_rule(rule)
        self._house = house
        self._rule = rule
        self._log = []
        # The first state, and that after each entry of the log.
        self._states = [begin(house, rule)]

    def _need_room(self, many):
        """Raise Full if the log has no room for so many more entries."""
        if len(self._log) + many > MOST_ENTRIES_OF_LOG:
            raise Full("the log has no room for it")

    def _do(self, deed):
        self._states.append(step(self._rule, self._states[-1], deed))
        self._log.append(deed)

    def do(self, deed):
        """Do the deed."""
        need_deed(self._house, deed)
        self._need_room(1)
        self._do(deed)

    def look(self, person, folder):
        """Return whether the person sees the folder now, and note it."""
        need_person(self._house, person)
        need_folder(self._house, folder)
        self._need_room(1)
        saw = person_sees(self._rule, self._states[-1], person, folder)
        self._states.append(self._states[-1])
        self._log.append(("look", person, folder, saw))
        return saw

    def undo(self):
        """Take back the last deed or look that has not been taken back."""
        if len(self._log) == 0:
            raise NothingToUndo("nothing is left that was done")
        self._log.pop()
        self._states.pop()

    def do_all(self, deeds):
        """Do all deeds of the list, or none if one of them is none."""
        need_deeds(self._house, deeds)
        self._need_room(len(deeds))
        for deed in deeds:
            self._do(deed)

    def state(self):
        """Return the state as it is now."""
        return self._states[-1]

    def log(self):
        """Return the list of what was done, looks with what they saw."""
        return list(self._log)

    def case(self, spread, *, last=8):
        """Return the case of the house as it was ahead of the last so many entries, with these as events."""
        if not is_integer(spread, 0, MOST_SPREAD):
            raise BadSpread("this is no spread")
        if not is_integer(last, 1, MOST_EVENTS):
            raise BadSpread("this is no number of last entries")
        begun = max(0, len(self._log) - last)
        parents, shut, entries, members, _ = self._states[begun]
        events = []
        for at, entry in enumerate(self._log[begun:]):
            moment = FIRST_MOMENT + BETWEEN_MOMENTS * at
            # A deed has at most three parts; the fourth one of a look is what it saw.
            events.append((entry[:3], moment - spread, moment + spread))
        return ((self._house[0], parents, shut, entries, members), self._rule, tuple(events))

    def __len__(self):
        return len(self._log)

    def __getitem__(self, at):
        need_folder(self._house, at)
        state = self._states[-1]
        return tuple([person for person in range(self._house[0]) if person_sees(self._rule, state, person, at)])

    def __contains__(self, x):
        if not is_row(x, 2):
            return False
        person, folder = x
        if not is_number(person, self._house[0]) or not is_number(folder, len(self._house[2])):
            return False
        return person_sees(self._rule, self._states[-1], person, folder)

    def __iter__(self):
        return iter(self._log)

    def __eq__(self, other):
        if not isinstance(other, House):
            return False
        if self._house != other._house or self._rule != other._rule:
            return False
        return _deeds_of(self._log) == _deeds_of(other._log)

    def copy(self):
        """Return another House that is equal, with the same log."""
        twin = House(self._house, self._rule)
        twin._log = list(self._log)
        twin._states = list(self._states)
        return twin

    @property
    def rule(self):
        """The rule of the house."""
        return self._rule

    def with_rule(self, rule):
        """Return another House with this rule, in which the same was done anew."""
        other = House(self._house, rule)
        for entry in self._log:
            if entry[0] == "look":
                other.look(entry[1], entry[2])
            else:
                other.do(entry)
        return other
