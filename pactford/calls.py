"""Calls that are open, and the picks that they share."""


class Call:
    """A call of a helper, and what its five pockets hold."""

    def __init__(self, serial, pact, lender):
        self.serial = serial
        self.name = pact[0]
        self.side = pact[1]
        self.throws = pact[4]
        # The call and the place of the row that entered it.
        self.lender = lender
        self.pockets = [None, None, None, None, None]
        # The things that its call row lent out of the caller's shelf, as (side, thing).
        self.loans = []


class Picks:
    """The picks of one call from the outside, taken by whichever call picks next."""

    def __init__(self, picks):
        self._picks = picks
        self._taken = 0

    def take(self):
        """Take the next pick, 0 where none is left."""
        if self._taken == len(self._picks):
            return 0
        self._taken += 1
        return self._picks[self._taken - 1]
