"""The table that gives handles for whole numbers."""

from heapq import heappop, heappush

from pactford.errors import Ended, NoHandle
from pactford.kinds import is_whole


class Table:
    """Handles (place, turn), each living from its begin to its end."""

    def __init__(self):
        # By place: how many handles had it so far, the living one too.
        self._turns = []
        # By place, of the living handles alone: the number.
        self._numbers = {}
        # A heap of the places that were had and are free again.
        self._free = []
        self._most = 0

    def begin(self, number):
        """Begin a handle for a number, and tell it."""
        if self._free:
            place = heappop(self._free)
        else:
            place = len(self._turns)
            self._turns.append(0)
        turn = self._turns[place]
        self._turns[place] = turn + 1
        self._numbers[place] = number
        self._most = max(self._most, len(self._numbers))
        return (place, turn)

    def look(self, handle):
        """Tell the number of a living handle."""
        return self._numbers[self._living_place(handle)]

    def end(self, handle):
        """End a living handle, and tell its number."""
        place = self._living_place(handle)
        heappush(self._free, place)
        return self._numbers.pop(place)

    def _living_place(self, handle):
        """Tell the place of a handle, or refuse it if it does not live."""
        if not _is_handle(handle) or handle[0] >= len(self._turns):
            raise NoHandle(handle)
        place, turn = handle
        if turn >= self._turns[place]:
            raise NoHandle(handle)
        if place not in self._numbers or turn < self._turns[place] - 1:
            raise Ended(handle)
        return place

    def alive(self):
        """Tell the living handles, by rising places."""
        return [(place, self._turns[place] - 1) for place in sorted(self._numbers)]

    def most(self):
        """Tell the greatest count of handles that lived at once so far."""
        return self._most

    def twin(self):
        """Tell a table that stands just so and goes on by itself."""
        other = Table()
        other._turns = list(self._turns)
        other._numbers = dict(self._numbers)
        other._free = list(self._free)
        other._most = self._most
        return other

    def __len__(self):
        return len(self._numbers)


def _is_handle(thing):
    """Tell whether thing is a tuple of two whole numbers from 0 on."""
    # A truth equals a number as a tuple's part, and one below 0 would be
    # taken for a place counted from the end.
    if not isinstance(thing, tuple) or len(thing) != 2:
        return False
    return all([is_whole(part) and part >= 0 for part in thing])
