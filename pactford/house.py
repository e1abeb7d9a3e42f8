"""The house: a world that lets no side be without a paper."""

from pactford.errors import Closed, Unlet
from pactford.lines import lines
from pactford.papers import EMPTY
from pactford.side import Side
from pactford.world import CALLS, World


class House:
    """A world of two sides that have papers, and a journal of what it was asked to do."""

    def __init__(self, pacts, bodies):
        # What is no helper's is told of with side 0.
        far = {name: bodies[name] for name in bodies if name in pacts.names(1)}
        near = {name: bodies[name] for name in bodies if name not in far}
        sides = [Side(pacts, 0, near), Side(pacts, 1, far)]
        for side in sides:
            _check_paper(side, EMPTY)
        self._pacts = pacts
        self._world = World(sides[0], sides[1])
        self._journal = []

    def put(self, bodies):
        """Give some helpers other bodies, all at once."""
        self._begin("put")
        try:
            self._put(bodies)
        finally:
            self._journal.append(("end", "put"))

    def _put(self, bodies):
        """Put the sides with other bodies in place, where each of them has a paper."""
        if self._world.closed():
            raise Closed("the house is closed")
        changed = []
        for name in sorted(bodies):
            self._pacts.pact(name)
        for side in self._world.sides():
            own = {name: bodies[name] for name in bodies if name in self._pacts.names(side.number())}
            if own:
                changed.append(side.changed(own))
        for side in changed:
            _check_paper(side, self._world.shelf(side.number()))
        self._world.swap_all(changed)

    def call(self, name, things=(), *, picks=(), most=CALLS):
        """Call a helper from the outside, and tell how it ended."""
        self._begin("call")
        try:
            return self._world.call(name, things, picks=picks, most=most)
        finally:
            self._journal.append(("end", "call"))

    def let_go(self, thing):
        """Let go of a thing that the outside holds."""
        self._begin("free")
        try:
            self._world.let_go(thing)
        finally:
            self._journal.append(("end", "free"))

    def close(self):
        """Close the house, and let go of everything."""
        self._begin("close")
        try:
            self._world.close()
        finally:
            self._journal.append(("end", "close"))

    def back(self):
        """Take the last deed back."""
        self._begin("back")
        try:
            self._world.back()
        finally:
            self._journal.append(("end", "back"))

    def _begin(self, word):
        """Put the begin of a deed to the journal."""
        self._journal.append(("begin", word))

    def body(self, name):
        """Tell the text of a helper's body."""
        number = self._pacts.pact(name)[1]
        return self._world.sides()[number].body(name)

    def held(self):
        """Tell what the outside holds."""
        return self._world.held()

    def shelf(self, number):
        """Tell the letter of a side's shelf."""
        return self._world.shelf(number)

    def closed(self):
        """Tell whether the house is closed."""
        return self._world.closed()

    def log(self):
        """Tell all that came, in order."""
        return self._world.log()

    def story(self):
        """Tell the log without handles."""
        return self._world.story()

    def journal(self):
        """Tell of each deed that was asked, in order, that it began and that it ended."""
        return list(self._journal)

    def __len__(self):
        return len(self._world)


def _check_paper(side, letter):
    """Refuse a side that has no paper for a letter of its shelf."""
    found = lines(side, begin=letter)
    if found is not None:
        raise Unlet(side.number(), found)
