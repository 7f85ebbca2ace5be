"""A second, slow reckoning of cases, which goes through all orders one by one; the program is held against it."""

from functools import lru_cache
from itertools import permutations, product

from model import Model, model_after, model_first

cached_after = lru_cache(maxsize=None)(lambda rule, state, deed: model_after(rule, state, [deed]))


@lru_cache(maxsize=None)
def cached_sights(rule, state):
    """All (person, folder) that are seen in the state, as a set."""
    model = Model(rule, state)
    spots = product(range(len(state[4])), range(len(state[1])))
    return frozenset(spot for spot in spots if model.sees(*spot))


def moments_of(events, order):
    """The least moment for each event in the order, None if there are no such moments."""
    now = 0
    moments = {}
    for number in order:
        now = max(now, events[number][1])
        if now > events[number][2]:
            return None
        moments[number] = now
    return moments


def latest_of(events, order):
    """The greatest moment for each event in an order."""
    now = 99
    moments = {}
    for number in reversed(order):
        now = min(now, events[number][2])
        moments[number] = now
    return moments


class Told:
    """What one order tells."""

    def __init__(self, case, order, first):
        _, rule, events = case
        self.order = order
        self.walk = [first]
        self.outcomes = {}
        for number in order:
            what, state = events[number][0], self.walk[-1]
            if what[0] == "look":
                self.outcomes[number] = what[1:] in cached_sights(rule, state)
                self.walk.append(state)
            else:
                self.walk.append(cached_after(rule, state, what))
        self.sights = [cached_sights(rule, state) for state in self.walk]

    def keeps(self, known):
        return all(self.outcomes[number] == saw for number, saw in known)

    def ahead(self, number, other):
        return self.order.index(number) < self.order.index(other)

    def places(self):
        """The places of this order, each with the event that leads on from it, None at the end."""
        events = self.order + (None,)
        return [(tuple(sorted(self.order[:at])), state, events[at]) for at, state in enumerate(self.walk)]

    def saw_row(self):
        return tuple(saw for _, saw in sorted(self.outcomes.items()))

    def sees_at_some_moment(self, spot):
        return any(spot in sights for sights in self.sights)

    def longest_run(self, spot):
        """How many states next to one another, at most, are seen."""
        longest = run = 0
        for sights in self.sights:
            run = run + 1 if spot in sights else 0
            longest = max(longest, run)
        return longest


class Reckoning:
    """All orders of a case, in ascending order, and what each of them tells."""

    def __init__(self, case):
        self.case = case
        self.events = case[2]
        self.numbers = range(len(case[2]))
        self.looks = [number for number in self.numbers if case[2][number][0][0] == "look"]
        orders = [order for order in permutations(self.numbers) if moments_of(case[2], order) is not None]
        first = model_first(case[0], case[1])
        self.told = [Told(case, order, first) for order in orders]
        self.orders = orders

    def left(self, known):
        return [told for told in self.told if told.keeps(known)]

    def sure_pairs(self):
        return [pair for pair in self.pairs() if all(told.ahead(*pair) for told in self.told)]

    def pairs(self):
        return [(number, other) for number in self.numbers for other in self.numbers if number != other]

    def spots(self):
        return [(person, folder) for person in range(self.case[0][0]) for folder in range(len(self.case[0][2]))]

    def places(self):
        """The list of all (done, state, ways, further)."""
        ways, further = {}, {}
        for told in self.told:
            for at, (done, state, _) in enumerate(told.places()):
                ways.setdefault((done, state), set()).add(told.order[:at])
                further.setdefault((done, state), set()).add(told.order[at:])
        return sorted(place + (len(ways[place]), len(further[place])) for place in ways)

    def steps(self):
        """A dict from each place to the dict from each event that leads on to (place, saw)."""
        steps = {}
        for told in self.told:
            places = told.places()
            for (done, state, event), after in zip(places, places[1:] + [None]):
                row = steps.setdefault((done, state), {})
                if event is not None:
                    row[event] = (after[:2], told.outcomes.get(event))
        return steps

    def bounds(self, known):
        """The list of the least and greatest moments of the events in the orders that are left."""
        left = self.left(known)
        least = [moments_of(self.events, told.order) for told in left]
        greatest = [latest_of(self.events, told.order) for told in left]
        return [(min(row[at] for row in least), max(row[at] for row in greatest)) for at in self.numbers]


# Those of the largest cases are asked for again and again.
reckoning_of = lru_cache(maxsize=12)(Reckoning)


def word_of(saws):
    """The word for a look by what it saw in each order."""
    return "always" if all(saws) else "sometimes" if any(saws) else "never"


def parts_of(known):
    """All parts of a tuple, as tuples."""
    choices = product((False, True), repeat=len(known))
    return [tuple(one for one, taken in zip(known, chosen) if taken) for chosen in choices]


def is_cover(steps, many, known, places):
    """Whether the places, of the web of these steps, are a cover, by the words of the document."""
    saws = dict(known)
    first = next(place for place in steps if place[0] == ())
    if first not in places or any(len(done) == many for done, state in places):
        return False
    for place in places:
        for event, (after, saw) in steps[place].items():
            if saws.get(event, saw) == saw and after not in places:
                return False
    return True
