"""Said bodies: their statements, read from a bracket text.

A statement is a tuple that begins with its number and its word; its names are
told as pockets: (number, "make", P), likewise use, free, put and take (for use
also the shelf), (number, "pick", first, second), (number, "again", inner),
(number, "end", word, P or None), the word of a done being the text without
signs, and (number, "call", name, handed, to or None, arms), handed of (place,
whether it is given), arms of (word, P or None, inner). What stands within a
statement is a tuple of statements.
"""

from pactford.brackets import read_brackets
from pactford.errors import NoBody, NoHelper, NoWord
from pactford.kinds import is_name
from pactford.places import SHELF

MOST_STATEMENTS = 60
MOST_WITHIN = 6
MOST_NAMES = 4
SHELF_WORD = "shelf"


def read_said(pacts, name, text):
    """Tell how many names a said body has, and its statements."""
    lists = read_brackets(text)
    if lists is None or not _are_names(lists[0], len(pacts.pact(name)[2])):
        raise NoBody(name, -1)
    if len(lists) == 1:
        raise NoBody(name, 0)
    reader = SaidReader(pacts, name, lists[0])
    return reader.body(lists[1:])


def _are_names(parts, many):
    """Tell whether parts are so many unlike names."""
    if len(parts) != many:
        return False
    return all([_is_said_name(part) and parts.count(part) == 1 for part in parts])


def _is_said_name(part):
    """Tell whether part is a word by which a said body may call a thing."""
    return is_name(part) and part != SHELF_WORD


def _is_inner(part):
    """Tell whether part is a list all parts of which are lists."""
    return isinstance(part, list) and all([isinstance(one, list) for one in part])


class SaidReader:
    """Reads the statements of one helper's body, by rising numbers."""

    def __init__(self, pacts, name, names):
        self._pacts = pacts
        self._pact = pacts.pact(name)
        self._names = list(names)
        self._count = 0

    def body(self, parts):
        """Tell how many names the body has, and the statements of its own row."""
        ahead = [self._statement(part, 0) for part in parts[:-1]]
        self._need(parts[-1][:1] in (["done"], ["throw"]), self._count)
        statements = (*ahead, self._statement(parts[-1], 0))
        return (len(self._names), statements)

    def _inner(self, parts, within):
        """Tell the statements of a list that stands within so many others."""
        return tuple([self._statement(part, within) for part in parts])

    def _need(self, fine, number):
        """Refuse the statement of this number where something is not fine."""
        if not fine:
            raise NoBody(self._pact[0], number)

    def _statement(self, parts, within):
        """Tell the statement of a list that stands within so many statements."""
        number = self._count
        self._count += 1
        self._need(number < MOST_STATEMENTS and within < MOST_WITHIN and len(parts) > 0, number)
        word = parts[0]
        if word == "pick":
            return self._pick(number, parts, within)
        if word == "again":
            return self._again(number, parts, within)
        if word == "call":
            return self._call(number, parts, within)
        if word == "throw":
            return self._throw(number, parts)
        if word == "done":
            return self._done(number, parts)
        self._need(word in ("make", "use", "free", "put", "take") and len(parts) == 2, number)
        return (number, word, self._place(number, parts[1], word == "use"))

    def _place(self, number, part, shelf_too):
        """Tell the pocket of a name in the statement of this number."""
        if shelf_too and part == SHELF_WORD:
            return SHELF
        self._need(_is_said_name(part), number)
        if part not in self._names:
            self._need(len(self._names) < MOST_NAMES, number)
            self._names.append(part)
        return self._names.index(part)

    def _pick(self, number, parts, within):
        """Tell a pick."""
        self._need(len(parts) == 3 and _is_inner(parts[1]) and _is_inner(parts[2]), number)
        first = self._inner(parts[1], within + 1)
        return (number, "pick", first, self._inner(parts[2], within + 1))

    def _again(self, number, parts, within):
        """Tell an again."""
        self._need(len(parts) == 2 and _is_inner(parts[1]), number)
        return (number, "again", self._inner(parts[1], within + 1))

    def _throw(self, number, parts):
        """Tell a throw."""
        laden = self._laden(parts[1]) if len(parts) > 1 else None
        self._need(laden is not None and len(parts) == (3 if laden else 2), number)
        return (number, "end", parts[1], self._place(number, parts[2], False) if laden else None)

    def _laden(self, word):
        """Tell whether the error that the helper's side calls so carries a thing, or None."""
        # A list may be too deep for a refusal to tell it.
        if not isinstance(word, str):
            return None
        try:
            return self._pacts.laden(word, side=self._pact[1])
        except NoWord:
            return None

    def _done(self, number, parts):
        """Tell a done."""
        gives = self._pact[3]
        self._need(len(parts) == (2 if gives else 1), number)
        return (number, "end", "", self._place(number, parts[1], False) if gives else None)

    def _call(self, number, parts, within):
        """Tell a call."""
        called = self._called(parts[1]) if len(parts) > 2 else None
        self._need(called is not None, number)
        name, _, takes, gives, _ = called
        handed = self._handed(number, parts[2], takes)
        arms = parts[3:]
        to = None
        if gives:
            self._need(len(arms) > 1 and arms[0] == "to", number)
            to = self._place(number, arms[1], False)
            arms = arms[2:]
        heads = self._heads(number, name, arms)
        inners = [self._inner(arm[-1], within + 1) for arm in arms]
        return (number, "call", name, handed, to,
                tuple([(word, pocket, inner) for (word, pocket), inner in zip(heads, inners)]))

    def _called(self, name):
        """Tell the pact of the helper of this name, or None."""
        if not isinstance(name, str):
            return None
        try:
            return self._pacts.pact(name)
        except NoHelper:
            return None

    def _handed(self, number, parts, takes):
        """Tell what a call hands over, as (place, whether it is given)."""
        self._need(isinstance(parts, list) and len(parts) == len(takes), number)
        return tuple([(self._place(number, part, take == "lent"), take == "given")
                      for part, take in zip(parts, takes)])

    def _heads(self, number, name, arms):
        """Tell what each arm of a call catches, and the pocket of its name."""
        errors = self._pacts.errors(name, side=self._pact[1])
        heads = []
        for arm in arms:
            self._need(isinstance(arm, list) and len(arm) > 2 and arm[0] == "on" and arm[1] in errors, number)
            errors.remove(arm[1])
            laden = self._laden(arm[1])
            self._need(len(arm) == (4 if laden else 3) and _is_inner(arm[-1]), number)
            heads.append((arm[1], self._place(number, arm[2], False) if laden else None))
        return heads
