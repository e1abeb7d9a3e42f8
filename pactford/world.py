"""The world of two sides."""

from pactford.errors import Closed, NoSide, NothingDone, TooLong
from pactford.kinds import is_side
from pactford.machine import Machine
from pactford.outside import check_held, check_sides, check_things
from pactford.stock import Stock

CALLS = 200


class World:
    """Two sides of equal pacts, called by the outside."""

    def __init__(self, near, far):
        check_sides(near, far)
        self._sides = [near, far]
        self._stock = Stock()
        self._closed = False
        self._broken = None
        # For each deed that stands, how all stood ahead of it.
        self._marks = []

    def call(self, name, things=(), *, picks=(), most=CALLS):
        """Call a helper from the outside, and tell how it ended."""
        self._need_open()
        takes = self._sides[0].pacts().pact(name)[2]
        check_things(takes, things, self._stock.outside)
        machine = Machine(self._sides, self._stock, picks, most)
        self._begin_deed()
        try:
            machine.run(name, list(things) if things else [None] * len(takes))
        except TooLong:
            self.back()
            raise
        self._broken = machine.fault
        self._closed = machine.fault is not None
        return machine.outcome

    def let_go(self, thing):
        """Let go of a thing that the outside holds."""
        self._need_open()
        check_held(thing, self._stock.outside, thing)
        self._begin_deed()
        self._stock.let_go(thing)

    def swap(self, side):
        """Put another side in the place of the one of its number."""
        self.swap_all([side])

    def swap_all(self, sides):
        """Put other sides in the places of those of their numbers, all by one deed."""
        self._need_open()
        for side in sides:
            if side.pacts() != self._sides[0].pacts():
                raise NoSide(side.number())
        self._begin_deed()
        for side in sides:
            self._sides[side.number()] = side

    def close(self):
        """Close the world, and let go of everything."""
        self._need_open()
        self._begin_deed()
        self._stock.let_go_of_all()
        self._closed = True

    def back(self):
        """Take the last deed back."""
        if not self._marks:
            raise NothingDone("there is no deed to take back")
        sides, stock = self._marks.pop()
        self._sides = list(sides)
        self._stock.back_to(stock)
        # Each deed began in a world that was not closed.
        self._closed = False
        self._broken = None

    def sides(self):
        """Tell the two sides."""
        return list(self._sides)

    def held(self):
        """Tell what the outside holds."""
        return sorted(self._stock.outside)

    def shelf(self, number):
        """Tell the letter of a side's shelf."""
        if not is_side(number):
            raise NoSide(number)
        held = self._stock.shelves[number]
        if held is None:
            return "E"
        # Between two calls each lent handle has ended.
        return "O" if held[1] is None else "X"

    def closed(self):
        """Tell whether the world is closed."""
        return self._closed

    def broken(self):
        """Tell of the break, or None."""
        return self._broken

    def log(self):
        """Tell all that came, in order."""
        return list(self._stock.entries)

    def story(self):
        """Tell the log without handles."""
        return [_without_handles(entry) for entry in self._stock.entries]

    def double(self):
        """Tell a world that stands just so and goes on by itself."""
        other = World(self._sides[0], self._sides[1])
        other._stock = self._stock.twin()
        other._closed = self._closed
        other._broken = self._broken
        other._marks = list(self._marks)
        return other

    def _need_open(self):
        """Refuse a deed in a closed world."""
        if self._closed:
            raise Closed("the world is closed")

    def _begin_deed(self):
        """Keep how all stands ahead of a deed."""
        self._marks.append((tuple(self._sides), self._stock.mark()))

    def __len__(self):
        return len(self._marks)

    def __eq__(self, other):
        return (isinstance(other, World) and self._sides == other._sides
                and self._stock.entries == other._stock.entries)


def _without_handles(entry):
    """Tell the entry of the story for one of the log."""
    word = entry[0]
    if word in ("made", "used", "freed", "got"):
        return (word, entry[1], entry[3])
    if word in ("lent", "gave"):
        return (word, entry[1], entry[3], entry[4])
    if word in ("ended", "caught"):
        return (word, entry[1], entry[2], entry[4])
    return entry
