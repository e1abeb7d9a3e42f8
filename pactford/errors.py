"""The refusals: each one straight beneath PactError."""


def _copied(thing):
    """Tell thing again, so that no list in it is one that was handed in."""
    if isinstance(thing, list):
        return [_copied(part) for part in thing]
    if isinstance(thing, tuple):
        return tuple([_copied(part) for part in thing])
    return thing


class PactError(ValueError):
    """Any refusal."""


class NoWord(PactError):
    """A side calls no error by this word."""

    def __init__(self, word):
        PactError.__init__(self, f"no such word of that side: {word}")
        self.word = word


class NoPact(PactError):
    """The pair or pact of this number is none, pairs counted ahead."""

    def __init__(self, at):
        PactError.__init__(self, f"no pair or pact: number {at}")
        self.at = at


class NoText(PactError):
    """The line of this number has no form."""

    def __init__(self, at):
        PactError.__init__(self, f"a line without form: number {at}")
        self.at = at


class NoHelper(PactError):
    """No helper has this name, or none has what was asked of it."""

    def __init__(self, name):
        PactError.__init__(self, f"no such helper: {name}")
        self.name = name


class NoHandle(PactError):
    """This handle was never begun."""

    def __init__(self, handle):
        PactError.__init__(self, f"no such handle: {handle}")
        self.handle = _copied(handle)


class Ended(PactError):
    """This handle has ended."""

    def __init__(self, handle):
        PactError.__init__(self, f"the handle has ended: {handle}")
        self.handle = _copied(handle)


class NoBody(PactError):
    """The body of this helper is wrong at this row or statement."""

    def __init__(self, name, at):
        PactError.__init__(self, f"no body of {name}: wrong at {at}")
        self.name = name
        self.at = at


class NoRow(PactError):
    """A body has no row of this number."""

    def __init__(self, at):
        PactError.__init__(self, f"no such row: {at}")
        self.at = at


class NoSide(PactError):
    """No side, or no fitting one, has this number."""

    def __init__(self, at):
        PactError.__init__(self, f"no such side, or none that fits: {at}")
        self.at = at


class NoThing(PactError):
    """The thing or the entry of this number is none to be handed in."""

    def __init__(self, at):
        PactError.__init__(self, f"no such thing: {at}")
        self.at = at


class NoLetter(PactError):
    """A shelf does not begin with this letter."""

    def __init__(self, letter):
        PactError.__init__(self, f"no letter for a begin: {letter}")
        self.letter = letter


class Unlet(PactError):
    """This side has no paper; the lines lead to its break."""

    def __init__(self, side, lines):
        PactError.__init__(self, f"no paper for side {side}")
        self.side = side
        self.lines = _copied(lines)


class Closed(PactError):
    """The world or the house is closed."""


class TooLong(PactError):
    """More calls would be entered than may be."""


class TooDeep(PactError):
    """More calls would be open at once than may be."""


class NothingDone(PactError):
    """There is no deed to take back."""


class NoLines(PactError):
    """What was handed in are no lines of that side."""
