"""The looks of a row, and what it leaves, over the letters of the places.

Six letters tell the five pockets and the shelf: `E` holds nothing, `O` owns,
`H` and `U` hold a living lent handle, `X` a dead one, `B` is a shelf that owns
a thing that is lent out of it.
"""

from pactford.places import SHELF


def first_fail(step, letters, throws):
    """Tell of the first look that fails, (reason, the place that was looked at); None where none fails."""
    word = step[0]
    if word == "make":
        return _full(letters, step[1])
    if word == "use":
        return _hold(letters, step[1])
    if word == "free":
        return _own(letters, step[1])
    if word == "forget":
        return ("kept", step[1]) if letters[step[1]] == "O" else None
    if word == "move":
        return _move(letters, step[1], step[2])
    if word == "call":
        return _call(letters, step)
    if word == "end":
        return _end(letters, step[1], step[2], throws)
    return None


def _full(letters, place):
    """Look whether a place owns."""
    return ("full", place) if letters[place] in ("O", "B") else None


def _hold(letters, place):
    """Look whether a place holds a living handle."""
    if letters[place] == "E":
        return ("empty", place)
    return ("stale", place) if letters[place] == "X" else None


def _own(letters, place):
    """Look whether a place holds an owned handle."""
    if letters[place] in ("H", "U"):
        return ("lent", place)
    return _hold(letters, place)


def _move(letters, source, target):
    """Look whether a thing may be moved; a dead handle may, too."""
    if letters[source] == "E":
        return ("empty", source)
    if letters[source] == "B":
        return ("out", source)
    return _full(letters, target)


def _call(letters, step):
    """Look at all that a call hands over, then at the pockets for what comes of it."""
    lent = []
    given = []
    for place, gives in step[2]:
        if place in given:
            return ("empty", place)
        failed = _own(letters, place) if gives else _hold(letters, place)
        if failed is not None:
            return failed
        if gives and place in lent:
            return ("out", place)
        if gives:
            given.append(place)
        else:
            lent.append(place)
    pockets = [step[3]] + [pocket for _, pocket, _ in step[4]]
    for pocket in pockets:
        if pocket is not None and pocket not in given and letters[pocket] == "O":
            return ("full", pocket)
    return None


def _end(letters, word, pocket, throws):
    """Look whether a call may end by a word, with what a pocket holds where one is told.

    An error that passes looks likewise, with no pocket: its thing is in none.
    """
    if word and word not in throws:
        return ("unnamed", None)
    failed = None if pocket is None else _own(letters, pocket)
    if failed is not None:
        return failed
    for other in range(SHELF):
        if other != pocket and letters[other] == "O":
            return ("kept", other)
    return None


def left_by(step, letters):
    """Tell the letters that a step other than a call, an end, a pick or a go leaves."""
    signs = list(letters)
    if step[0] == "make":
        signs[step[1]] = "O"
    elif step[0] in ("free", "clear", "forget"):
        signs[step[1]] = "E"
    elif step[0] == "move":
        signs[step[2]] = signs[step[1]]
        signs[step[1]] = "E"
    return "".join(signs)
