"""What the outside may hand in, for the world and the plain runner alike."""

from pactford.errors import NoSide, NoThing
from pactford.kinds import is_whole


def check_sides(near, far):
    """Refuse two sides of which no world is made."""
    if near.number() != 0:
        raise NoSide(0)
    if far.number() != 1 or near.pacts() != far.pacts():
        raise NoSide(1)


def check_things(takes, things, held):
    """Refuse entries that cannot be handed in for these takes by an outside that holds these things."""
    if len(things) not in (0, len(takes)):
        raise NoThing(len(things))
    lent = []
    given = []
    for at, (thing, take) in enumerate(zip(things, takes)):
        if thing is None:
            continue
        check_held(thing, held, at)
        if thing in given or (take == "given" and thing in lent):
            raise NoThing(at)
        if take == "given":
            given.append(thing)
        else:
            lent.append(thing)


def check_held(thing, held, at):
    """Refuse by this number a thing that the outside does not hold."""
    if not is_whole(thing) or thing not in held:
        raise NoThing(at)
