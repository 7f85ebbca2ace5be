"""The web of a case: its places, the steps between them, and what is told by it over many orders at once.

All arguments are known to be good here. The events done are kept as bits: that of event 3 is 1 << 3.
"""

from sawwhen.results import Results


def is_surely_ahead(event, other):
    """Whether the event is surely ahead of the other one."""
    return event[2] < other[1]


def bits_ahead(events):
    """Return the list, for each event, of the events that are surely ahead of it, as bits."""
    return [
        sum([1 << number for number, ahead in enumerate(events) if is_surely_ahead(ahead, event)]) for event in events
    ]


def with_pairs(ahead, pairs):
    """Return the list of the bits ahead of each event with those of the pairs put to them."""
    rows = list(ahead)
    for number, other in pairs:
        rows[other] = rows[other] | (1 << number)
    return rows


def next_events(ahead, done):
    """Return the list, ascending, of the events that can come next, by the bits ahead of each."""
    return [number for number, bits in enumerate(ahead) if not done >> number & 1 and bits & done == bits]


def numbers_of(bits):
    """Return the tuple, ascending, of the numbers whose bits are set."""
    return tuple([number for number in range(bits.bit_length()) if bits >> number & 1])


def counts_by(steps, onward):
    """Return the dict from the outcomes still to come to how many ways on and the least one, by these steps.

    onward is the list, for each place that they lead to, of such a dict.
    """
    counts = {}
    for event, to, saw in steps:
        for seen, (count, order) in onward[to].items():
            bits = seen | (1 << event) if saw else seen
            # The steps ascend, so a way on that was found by one ahead begins with a lesser event.
            many, least = counts.get(bits, (0, (event,) + order))
            counts[bits] = (many + count, least)
    return counts


class Web:
    """The places that are come to in the orders of a case, but for known looks that would come out otherwise.

    A lot, if it is told, holds events ahead of others. results tells what the events come to. places is the list of
    (events done, number of the state); place 0 is the beginning, and each step leads to a place that stands behind
    it. steps is the list, for each place, of the list, ascending, of the steps (event, place that it leads to, saw)
    from it; saw is None for a deed.
    """

    def __init__(self, case, known=(), lot=()):
        self.events = case[2]
        self.whole = (1 << len(self.events)) - 1
        self.results = Results(case)
        self.places = [(0, 0)]
        self.steps = []
        self._place_numbers = {self.places[0]: 0}
        self._grow(dict(known), with_pairs(bits_ahead(self.events), lot))

    def _grow(self, known, ahead):
        while len(self.steps) < len(self.places):
            done, state = self.places[len(self.steps)]
            row = []
            for event in next_events(ahead, done):
                after, saw = self.results.after(event, state)
                if known.get(event, saw) == saw:
                    row.append((event, self._number_of_place((done | (1 << event), after)), saw))
            self.steps.append(row)

    def _number_of_place(self, place):
        if place not in self._place_numbers:
            self._place_numbers[place] = len(self.places)
            self.places.append(place)
        return self._place_numbers[place]

    def number_of(self, done, state):
        """Return the number of the place with the tuple of events done and the state, None if there is none."""
        bits = sum([1 << event for event in done])
        return self._place_numbers.get((bits, self.results.number_of(state)))

    def told_place(self, at):
        """Return the place of this number as a tuple of the events done, as numbers, and the state."""
        done, state = self.places[at]
        return (numbers_of(done), self.results.states[state])

    def is_end(self, at):
        """Whether all events are done at the place."""
        return self.places[at][0] == self.whole

    def ends(self):
        """Return the list of the places at which all events are done."""
        return [at for at in range(len(self.places)) if self.is_end(at)]

    def sights(self, person, folder):
        """Return the list, for each place, of whether the person sees the folder there."""
        seen = self.results.sights(person, folder)
        return [seen[state] for _, state in self.places]

    def ways(self):
        """Return the list, for each place, of in how many ways it is come to."""
        ways = [1] + [0] * (len(self.places) - 1)
        for at, row in enumerate(self.steps):
            for _, to, _ in row:
                ways[to] = ways[to] + ways[at]
        return ways

    def further(self):
        """Return the list, for each place, of in how many ways one goes on from it to an end."""
        return self.further_by([True] * len(self.places))

    def further_by(self, good):
        """Return the same with good places alone, itself among them; good tells for each place whether it is."""
        further = [0] * len(self.places)
        for at in reversed(range(len(self.places))):
            if good[at]:
                further[at] = 1 if self.is_end(at) else sum([further[to] for _, to, _ in self.steps[at]])
        return further

    def order_count(self):
        """Return the number of orders."""
        return self.further()[0]

    def order_by(self, worth):
        """Return the order that takes, each time, the first step to a place of worth, or else the first step.

        worth tells of each place; None is returned if place 0 has none.
        """
        if not worth[0]:
            return None
        order = []
        at = 0
        while self.steps[at]:
            row = [one for one in self.steps[at] if worth[one[1]]] or self.steps[at]
            event, at, _ = row[0]
            order.append(event)
        return tuple(order)

    def used_steps(self):
        """Return the list of (events done ahead, event, saw, in how many orders) for all steps on whole orders."""
        ways = self.ways()
        further = self.further()
        return [
            (self.places[at][0], event, saw, ways[at] * further[to])
            for at, row in enumerate(self.steps) for event, to, saw in row if further[to]
        ]

    def seen_counts(self):
        """Return the list, for each event, of in how many orders it saw, 0 for a deed."""
        counts = [0 for _ in self.events]
        for _, event, saw, count in self.used_steps():
            if saw:
                counts[event] += count
        return counts

    def outcome_counts(self):
        """Return the dict from outcomes, as the bits of the looks that saw, to how many orders and the least one."""
        onward = [{} for _ in self.places]
        for at in reversed(range(len(self.places))):
            onward[at] = {0: (1, ())} if self.is_end(at) else counts_by(self.steps[at], onward)
        return onward[0]
