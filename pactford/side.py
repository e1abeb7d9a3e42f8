"""A side: the bodies of all its helpers."""

from pactford.body import Body
from pactford.errors import NoHelper, NoRow
from pactford.kinds import is_whole


class Side:
    """The pacts of both sides, and the bodies of the helpers of one of them."""

    def __init__(self, pacts, number, bodies):
        self._pacts = pacts
        self._number = number
        self._bodies = dict(bodies)
        names = pacts.names(number)
        for name in sorted([*names, *self._bodies]):
            if name not in names or name not in self._bodies:
                raise NoHelper(name)
        self._parsed = {}
        for name in names:
            self._parsed[name] = Body(pacts, name, self._bodies[name])

    def pacts(self):
        """Tell the pacts."""
        return self._pacts

    def number(self):
        """Tell which of the two sides this is."""
        return self._number

    def body(self, name):
        """Tell the text of a helper's body."""
        return self.parsed(name).text

    def rows(self, name):
        """Tell the rows of a helper's body, those into which it is turned where it is said."""
        return list(self.parsed(name).texts)

    def place(self, name, row):
        """Tell the row or the statement to which a row belongs."""
        numbers = self.parsed(name).numbers
        if not is_whole(row) or not 0 <= row < len(numbers):
            raise NoRow(row)
        return numbers[row]

    def parsed(self, name):
        """Tell a helper's body as it was read, not to be changed."""
        if name not in self._parsed:
            raise NoHelper(name)
        return self._parsed[name]

    def changed(self, bodies):
        """Tell a side with other bodies for some helpers."""
        return Side(self._pacts, self._number, {**self._bodies, **bodies})

    def __eq__(self, other):
        return (isinstance(other, Side) and self._pacts == other._pacts
                and self._number == other._number and self._bodies == other._bodies)
