"""Bodies in rows: each row read as a step.

A step is a tuple, pockets and the shelf being the numbers of `places`:
("make", P), ("use", Q), ("free", P), ("clear", P), ("forget", P),
("move", from, to), also for put and take, ("pick", row), ("go", row),
("end", word, P or None), the word of a done being the text without signs, and
("call", name, handed, to or None, catches), handed of (place, whether it is
given), catches of (word, P or None, row).
"""

from pactford.errors import NoBody, NoHelper, NoWord
from pactford.places import SHELF, place_of, pocket_of

MOST_ROWS = 200
POCKET_ROWS = ("make", "free", "clear", "forget", "put", "take")


def read_rows(pacts, name, texts, most):
    """Tell the steps of the rows of a helper's body, at most so many."""
    reader = RowReader(pacts, name, len(texts))
    steps = []
    for at, text in enumerate(texts):
        step = reader.step(at, text.split(" "))
        if at == most or step is None:
            raise NoBody(name, at)
        steps.append(step)
    if steps[-1][0] != "end":
        raise NoBody(name, len(steps) - 1)
    return tuple(steps)


class RowReader:
    """Reads the rows of one helper's body; None stands for what has no form."""

    def __init__(self, pacts, name, many):
        self._pacts = pacts
        self._pact = pacts.pact(name)
        self._many = many

    def step(self, at, words):
        """Tell the step of the row of this number."""
        word = words[0]
        if word in POCKET_ROWS:
            return self._pocket_row(words)
        if word == "use":
            return self._use(words)
        if word == "move":
            return self._move(words)
        if word in ("pick", "go"):
            return self._jump(at, words)
        if word == "throw":
            return self._throw(words)
        if word == "done":
            return self._done(words)
        if word == "call":
            return self._call(words)
        return None

    def _pocket_row(self, words):
        """Tell the step of a row of a word and a pocket."""
        if len(words) != 2 or pocket_of(words[1]) is None:
            return None
        pocket = pocket_of(words[1])
        if words[0] == "put":
            return ("move", pocket, SHELF)
        if words[0] == "take":
            return ("move", SHELF, pocket)
        return (words[0], pocket)

    def _use(self, words):
        """Tell the step of a use."""
        if len(words) != 2 or place_of(words[1]) is None:
            return None
        return ("use", place_of(words[1]))

    def _move(self, words):
        """Tell the step of a move."""
        pockets = [pocket_of(word) for word in words[1:]]
        if len(pockets) != 2 or None in pockets or pockets[0] == pockets[1]:
            return None
        return ("move", pockets[0], pockets[1])

    def _jump(self, at, words):
        """Tell the step of a pick or a go."""
        row = self._row_number(words[1]) if len(words) == 2 else None
        if row is None or (words[0] == "go" and row <= at):
            return None
        return (words[0], row)

    def _row_number(self, word):
        """Tell the number of the row that is written so."""
        # A text may have more figures than int takes.
        if not 1 <= len(word) <= len(str(self._many)):
            return None
        if not all(["0" <= sign <= "9" for sign in word]) or str(int(word)) != word:
            return None
        return int(word) if int(word) < self._many else None

    def _throw(self, words):
        """Tell the step of a throw."""
        laden = self._laden(words[1]) if len(words) > 1 else None
        if laden is None or len(words) != (3 if laden else 2):
            return None
        return self._end(words[1], words[2:])

    def _laden(self, word):
        """Tell whether the error that the helper's side calls so carries a thing."""
        try:
            return self._pacts.laden(word, side=self._pact[1])
        except NoWord:
            return None

    def _done(self, words):
        """Tell the step of a done."""
        if len(words) != (2 if self._pact[3] else 1):
            return None
        return self._end("", words[1:])

    def _end(self, word, pockets):
        """Tell the step of an end by a word, with the pocket that stands behind it."""
        if not pockets:
            return ("end", word, None)
        pocket = pocket_of(pockets[0])
        return None if pocket is None else ("end", word, pocket)

    def _call(self, words):
        """Tell the step of a call."""
        called = self._called(words[1]) if len(words) > 1 else None
        if called is None:
            return None
        name, _, takes, gives, _ = called
        behind = 2 + 2 * len(takes)
        handed = self._handed(words[2:behind], takes)
        to = self._to(words[behind:behind + 2])
        if handed is None or gives != (to is not None):
            return None
        catches = self._catches(name, words[behind + 2:] if gives else words[behind:])
        return None if catches is None else ("call", name, handed, to, catches)

    def _called(self, name):
        """Tell the pact of the helper of this name."""
        try:
            return self._pacts.pact(name)
        except NoHelper:
            return None

    def _handed(self, words, takes):
        """Tell what a call hands over, as (place, whether it is given)."""
        if len(words) != 2 * len(takes):
            return None
        handed = []
        for at, take in enumerate(takes):
            given = take == "given"
            place = pocket_of(words[2 * at + 1]) if given else place_of(words[2 * at + 1])
            if words[2 * at] != ("give" if given else "lend") or place is None:
                return None
            handed.append((place, given))
        return tuple(handed)

    def _to(self, words):
        """Tell the pocket to which a call brings a thing."""
        return pocket_of(words[1]) if len(words) == 2 and words[0] == "to" else None

    def _catches(self, name, words):
        """Tell the catches of a call of a helper."""
        errors = self._pacts.errors(name, side=self._pact[1])
        catches = []
        while words:
            if len(words) < 3 or words[0] != "on" or words[1] not in errors:
                return None
            errors.remove(words[1])
            laden = self._laden(words[1])
            pocket = pocket_of(words[2])
            behind = 4 if laden else 3
            row = self._row_number(words[behind - 1]) if len(words) >= behind else None
            if row is None or laden != (pocket is not None):
                return None
            catches.append((words[1], pocket, row))
            words = words[behind:]
        return tuple(catches)
