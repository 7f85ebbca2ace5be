"""A case that is being read line by line, and the first line by which it cannot become one any more."""

from sawwhen.forms import MOST_PARENTS, MOST_PEOPLE, ascends, is_entries, is_event, is_integer, is_members, is_number
from sawwhen.forms import is_parents
from sawwhen.orders import MOST_EVENTS


class Draft:
    """What has been read of a case behind its rule; each line is taken as the tuple of its kind and its parts."""

    def __init__(self):
        self._people = 0
        self._parents = ()
        self._shut = ()
        self._entries = ()
        self._members = ()
        self._events = ()

    def _folders(self):
        return len(self._parents) + 1

    def take(self, row):
        """Take one more line; return whether what has been read can still be the beginning of a case."""
        kind = row[0]
        if kind == "people":
            self._people = row[1]
            return is_integer(self._people, 1, MOST_PEOPLE)
        if kind == "folder":
            self._parents = self._parents + (row[1],)
            return self._can_grow()
        # No folder can follow any more, so those that others lie in must be there.
        return self.is_whole() and self._take_behind(kind, row[1:])

    def _can_grow(self):
        """Whether the folders can become those of a house: if any more make them so, those that lie in folder 0 do."""
        return is_parents(self._parents + (0,) * (MOST_PARENTS - len(self._parents)))

    def is_whole(self):
        """Whether what has been read is a case as it stands, if it is the beginning of one."""
        return is_parents(self._parents)

    def _take_behind(self, kind, parts):
        if kind == "shut":
            self._shut = self._shut + parts
            return ascends(self._shut) and is_number(parts[0], self._folders())
        if kind == "entry":
            self._entries = self._entries + (parts,)
            return is_entries(self._entries, self._people, self._folders())
        if kind == "member":
            self._members = self._members + (parts,)
            return is_members(self._members, self._people)
        self._events = self._events + (parts,)
        return len(self._events) <= MOST_EVENTS and is_event(parts, self._people, self._folders())

    def told_house(self):
        """Return the house that was read."""
        shut = tuple([folder in self._shut for folder in range(self._folders())])
        return (self._people, self._parents, shut, self._entries, self._members)

    def told_events(self):
        """Return the tuple of the events that were read."""
        return self._events
