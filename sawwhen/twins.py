"""Two walks through the events of a case side by side, and where they part; all arguments are known to be good here."""

from sawwhen.web import bits_ahead, next_events


class Twins:
    """Two walks through the same events, told by the results of the first one and those of the second one.

    The events left out, as bits, are done in the first walk alone. The walks part where a look that is not left out
    comes out otherwise in them; if ends_tell is True, also where their last states are not the same. A place of both
    is a tuple of the events done, as bits, and the numbers of the states of the two.
    """

    def __init__(self, first, second, *, left_out=0, ends_tell=False):
        self._first = first
        self._second = second
        self._left_out = left_out
        self._ends_tell = ends_tell
        self._ahead = bits_ahead(first.events)
        self._whole = (1 << len(first.events)) - 1
        self._found = {}

    def _steps(self, place):
        """Return the list, for each event that can come next, of (event, whether the walks part by it, place after)."""
        done, state, other = place
        rows = []
        for event in next_events(self._ahead, done):
            after, saw = self._first.after(event, state)
            left_out = self._left_out >> event & 1
            behind, seen = (other, saw) if left_out else self._second.after(event, other)
            rows.append((event, saw != seen, (done | (1 << event), after, behind)))
        return rows

    def can_part(self, place):
        """Whether the walks part in some way on from the place."""
        if place not in self._found:
            self._found[place] = self._reckon(place)
        return self._found[place]

    def _reckon(self, place):
        done, state, other = place
        if done == self._whole:
            return self._ends_tell and state != other
        for _, parted, after in self._steps(place):
            if parted or self.can_part(after):
                return True
        return False

    def parting_order(self):
        """Return an order in which the walks part by a look, None if there is none."""
        place = (0, 0, 0)
        if not self.can_part(place):
            return None
        order = []
        while rows := self._steps(place):
            parting = [row for row in rows if row[1] or self.can_part(row[2])] or rows
            event, _, place = parting[0]
            order.append(event)
        return tuple(order)
