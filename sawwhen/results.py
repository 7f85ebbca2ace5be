"""What the events of a case come to, each in each state reckoned once; all arguments are known to be good here."""

from sawwhen.rights import person_sees
from sawwhen.steps import begin, step


class Results:
    """What the events of a case make of states, and see in them.

    states is the list of the states that were come to so far, by which they are numbered; state 0 is the first one.
    """

    def __init__(self, case):
        house, self._rule, self.events = case
        self.states = [begin(house, self._rule)]
        self._numbers = {self.states[0]: 0}
        self._found = {}

    def after(self, event, state):
        """Return the number of the state after the event in that state, and whether it saw, None for a deed."""
        if (event, state) not in self._found:
            what = self.events[event][0]
            stands = self.states[state]
            saw = person_sees(self._rule, stands, what[1], what[2]) if what[0] == "look" else None
            self._found[event, state] = (self._number_for(step(self._rule, stands, what)), saw)
        return self._found[event, state]

    def _number_for(self, state):
        if state not in self._numbers:
            self._numbers[state] = len(self.states)
            self.states.append(state)
        return self._numbers[state]

    def number_of(self, state):
        """Return the number of the state, None if it was not come to."""
        return self._numbers.get(state)

    def sights(self, person, folder):
        """Return the list, for each state, of whether the person sees the folder in it."""
        return [person_sees(self._rule, state, person, folder) for state in self.states]
