"""What a world has beside its sides, and what lasts from call to call."""

from pactford.table import Table


class Stock:
    """The tables, the shelves, the things of the outside, the counts and the log.

    What a place holds is None or (handle, lender): lender is None where the
    handle is owned, else the call and the place of the row that lent it.
    """

    def __init__(self):
        self.tables = [Table(), Table()]
        self.shelves = [None, None]
        self.outside = {}
        self.things = 0
        self.entered = 0
        self.entries = []
        # What came to the outside and went from it, (thing, whether it came):
        # with it a mark need not bear all that the outside holds.
        self._changes = []

    def new_thing(self):
        """Make a thing, and tell its number."""
        self.things += 1
        return self.things - 1

    def new_call(self):
        """Enter a call, and tell its number."""
        self.entered += 1
        return self.entered

    def gain(self, thing):
        """Let the outside hold a thing."""
        self.outside[thing] = True
        self._changes.append((thing, True))

    def lose(self, thing):
        """Let the outside hold a thing no more."""
        del self.outside[thing]
        self._changes.append((thing, False))

    def let_go_of_all(self):
        """Let go of what the shelves own, then of what the outside holds."""
        for side, held in enumerate(list(self.shelves)):
            if held is not None and held[1] is None:
                thing = self.tables[side].end(held[0])
                self.shelves[side] = None
                self.entries.append(("freed", 0, held[0], thing))
        for thing in sorted(self.outside):
            self.let_go(thing)

    def let_go(self, thing):
        """Let go of a thing that the outside holds."""
        self.lose(thing)
        self.entries.append(("freed", 0, None, thing))

    def mark(self):
        """Tell all that is needed to come back to where it stands now."""
        tables = (self.tables[0].twin(), self.tables[1].twin())
        return (tables, tuple(self.shelves), self.things, self.entered, len(self.entries), len(self._changes))

    def back_to(self, mark):
        """Stand again as at a mark."""
        tables, shelves, self.things, self.entered, entries, changes = mark
        # A mark may be another world's, too, and its tables stay as they are.
        self.tables = [table.twin() for table in tables]
        self.shelves = list(shelves)
        for thing, came in reversed(self._changes[changes:]):
            if came:
                del self.outside[thing]
            else:
                self.outside[thing] = True
        del self._changes[changes:]
        del self.entries[entries:]

    def twin(self):
        """Tell a stock that stands just so and goes on by itself."""
        other = Stock()
        other.tables = [table.twin() for table in self.tables]
        other.shelves = list(self.shelves)
        other.outside = dict(self.outside)
        other.things = self.things
        other.entered = self.entered
        other.entries = list(self.entries)
        other._changes = list(self._changes)
        return other
