"""The facts of a side that is looked at by itself, and the rules that lead from some to others."""

from pactford.kinds import is_whole
from pactford.looks import first_fail, left_by
from pactford.places import SHELF

TOPS = ("E", "O", "X")
STARTS = ("E", "O", "U", "X", "B")
POCKETS = ("E", "O", "H", "U", "X")
SHELVES = ("E", "O", "H", "U", "X", "B")
REASONS = ("full", "empty", "stale", "lent", "kept", "out", "unnamed")


def view(letter):
    """Tell the letter that a call sees which a waiting one lets be entered with this letter."""
    return "U" if letter == "H" else letter


def back(letter, ahead):
    """Tell the letter that a waiting call sees behind an end with this one, where it had one ahead."""
    if letter == "H":
        return "X"
    return ahead if letter == "U" else letter


def _with_owned(pockets, pocket):
    """Tell the letters of the pockets when a thing has come to one, or to none."""
    if pocket is None:
        return pockets
    return pockets[:pocket] + "O" + pockets[pocket + 1:]


class Rules:
    """What the rules lead to on one side."""

    def __init__(self, side):
        pacts = side.pacts()
        number = side.number()
        self._names = pacts.names(number)
        self._words = ["", *[pair[number] for pair in pacts.pairs()]]
        self._steps = {}
        self._throws = {}
        self._begins = {}
        for name in self._names:
            _, _, takes, _, throws = pacts.pact(name)
            self._steps[name] = side.parsed(name).steps
            self._throws[name] = throws
            letters = ["O" if take == "given" else "H" for take in takes]
            self._begins[name] = "".join(letters) + "E" * (SHELF - len(takes))
        # Of each helper of the other side, the words by which a call of it ends.
        self._far_words = {}
        for name in pacts.names(1 - number):
            self._far_words[name] = ["", *pacts.errors(name, side=number)]

    def is_fact(self, fact):
        """Tell whether something is a fact of this side other than a break."""
        if not isinstance(fact, tuple) or not fact:
            return False
        word = fact[0]
        if word == "top":
            return len(fact) == 2 and fact[1] in TOPS
        if not self._is_of_call(fact):
            return False
        rest = fact[3:]
        if word == "enter":
            return len(rest) == 0
        if word == "end":
            return len(rest) == 2 and rest[0] in self._words and rest[1] in SHELVES
        if word == "stand":
            return len(rest) == 3 and self._is_row(fact[1], rest[0]) and _are_letters(rest[1], rest[2:])
        if word == "wait":
            return len(rest) == 4 and self._is_call_row(fact[1], rest[0]) and _are_letters(rest[1], rest[2:])
        return False

    def is_break(self, fact):
        """Tell whether something is a fact of this side that is a break."""
        if not isinstance(fact, tuple) or len(fact) != 5 or fact[0] != "break":
            return False
        return self._is_of_call(fact) and self._is_row(fact[1], fact[3]) and fact[4] in REASONS

    def _is_of_call(self, fact):
        """Tell whether a tuple has a helper and a begin of its call behind its word."""
        return len(fact) > 2 and fact[1] in self._names and fact[2] in STARTS

    def _is_row(self, name, row):
        """Tell whether a helper's body has a row of this number."""
        return is_whole(row) and 0 <= row < len(self._steps[name])

    def _is_call_row(self, name, row):
        """Tell whether a helper's body has a call row of this number."""
        return self._is_row(name, row) and self._steps[name][row][0] == "call"

    def called(self, wait):
        """Tell the helper that a wait's row calls."""
        return self._steps[wait[1]][wait[3]][1]

    def calls_far(self, wait):
        """Tell whether a wait's row calls a helper of the other side."""
        return self.called(wait) in self._far_words

    def far_words(self, name):
        """Tell the words by which a call of a helper of the other side ends."""
        return list(self._far_words[name])

    def jumps(self, stand):
        """Tell the row to which a stand's pick leads, None where its row is no pick."""
        step = self._steps[stand[1]][stand[3]]
        return step[1] if step[0] == "pick" else None

    def from_one(self, fact):
        """Tell the facts that follow from one alone, by the rules b to e."""
        if fact[0] == "top":
            return [("enter", name, fact[1]) for name in self._names]
        if fact[0] == "enter":
            _, name, start = fact
            return [("stand", name, start, 0, self._begins[name], start)]
        if fact[0] == "stand":
            return self._from_stand(fact)
        if fact[0] == "wait":
            return self._from_wait(fact)
        return []

    def _from_stand(self, fact):
        """Tell what follows from a stand."""
        _, name, start, row, pockets, shelf = fact
        step = self._steps[name][row]
        failed = first_fail(step, pockets + shelf, self._throws[name])
        if failed is not None:
            return [("break", name, start, row, failed[0])]
        if step[0] == "end":
            return [("end", name, start, step[1], shelf)]
        if step[0] == "call":
            return [("wait", name, start, row, _behind_giving(step, pockets), shelf, _behind_lending(step, shelf))]
        letters = left_by(step, pockets + shelf)
        rows = [step[1]] if step[0] in ("pick", "go") else []
        if step[0] != "go":
            rows.append(row + 1)
        return [("stand", name, start, one, letters[:SHELF], letters[SHELF]) for one in rows]

    def _from_wait(self, fact):
        """Tell what follows from a wait alone."""
        called = self.called(fact)
        seen = view(fact[6])
        if called not in self._far_words:
            return [("enter", called, seen)]
        entered = [("enter", name, seen) for name in self._names]
        return entered + [self.behind(fact, word, fact[6]) for word in self._far_words[called]]

    def behind(self, wait, word, letter):
        """Tell what comes behind a wait, by a word and with a letter of the shelf."""
        _, name, start, row, pockets, held, _ = wait
        shelf = "O" if letter == "B" and held == "O" else letter
        step = self._steps[name][row]
        if not word:
            return ("stand", name, start, row + 1, _with_owned(pockets, step[3]), shelf)
        for caught, pocket, target in step[4]:
            if caught == word:
                return ("stand", name, start, target, _with_owned(pockets, pocket), shelf)
        failed = first_fail(("end", word, None), pockets + shelf, self._throws[name])
        if failed is not None:
            return ("break", name, start, row, failed[0])
        return ("end", name, start, word, shelf)

    def from_two(self, fact, end):
        """Tell the facts that follow from a wait or a top and an end, by the rules f and h."""
        if fact[0] == "top":
            return _from_top(fact, end)
        _, name, start, row, pockets, held, shelf = fact
        if end[2] != view(shelf):
            return []
        letter = back(end[4], shelf)
        if self.calls_far(fact):
            return [("wait", name, start, row, pockets, held, letter)]
        if self.called(fact) != end[1]:
            return []
        return [self.behind(fact, end[3], letter)]


def _are_letters(pockets, shelves):
    """Tell whether these are five letters of pockets, and letters of shelves."""
    if not isinstance(pockets, str) or len(pockets) != SHELF:
        return False
    return all([one in POCKETS for one in pockets]) and all([one in SHELVES for one in shelves])


def _behind_giving(step, pockets):
    """Tell the letters of the pockets behind the giving of a call row."""
    signs = list(pockets)
    for place, given in step[2]:
        if given:
            signs[place] = "E"
    return "".join(signs)


def _behind_lending(step, shelf):
    """Tell the letter of the shelf behind the lending of a call row."""
    return "B" if shelf == "O" and (SHELF, False) in step[2] else shelf


def _from_top(top, end):
    """Tell the top that follows from another one and an end."""
    if end[2] != top[1] or end[4] not in ("E", "O", "X", "H"):
        return []
    return [("top", "X" if end[4] == "H" else end[4])]
