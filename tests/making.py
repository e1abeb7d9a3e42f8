"""Small pacts, sides and worlds for tests."""

from pactford.errors import NoBody, PactError
from pactford.pacts import Pacts
from pactford.side import Side
from pactford.world import World

# near, far, laden
PAIRS = [("spilt", "full", True), ("shut", "barred", False)]


def pacts_of(helpers, pairs=PAIRS):
    return Pacts(pairs, helpers)


def side_of(pacts, number, bodies):
    return Side(pacts, number, {name: bodies[name] for name in pacts.names(number)})


def world_of(helpers, bodies, pairs=PAIRS):
    """A world; bodies are of the helpers of both sides."""
    pacts = pacts_of(helpers, pairs)
    return World(side_of(pacts, 0, bodies), side_of(pacts, 1, bodies))


def told(world):
    """All that a world tells."""
    return (world.held(), world.shelf(0), world.shelf(1), world.closed(), world.broken(), world.log(), world.story(),
            len(world))


def refusal(act, *things, **named):
    """The class and the values of the refusal of a call, None where there was none."""
    try:
        act(*things, **named)
    except PactError as error:
        return (error.__class__, *[getattr(error, key) for key in ("name", "at", "letter") if hasattr(error, key)])
    return None


def wrong_at(pacts, name, text):
    """The number of the row or statement at which a body is refused, None where it is not."""
    number = pacts.pact(name)[1]
    bodies = {other: harmless(pacts, other) for other in pacts.names(number)}
    bodies[name] = text
    try:
        Side(pacts, number, bodies)
    except NoBody as error:
        assert error.name == name
        return error.at
    return None


def harmless(pacts, name):
    """A body in rows that keeps its pact."""
    cleared = [f"clear {pocket}" for pocket in "abcde"]
    return "\n".join([*cleared, "make a", "done a"] if pacts.pact(name)[3] else [*cleared, "done"])
