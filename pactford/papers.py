"""Papers: lists of facts that show that a side by itself never breaks."""

from pactford.errors import NoLetter
from pactford.rules import TOPS, Rules, view

EMPTY = "E"


def paper(side, *, begin=EMPTY):
    """Tell the least paper of a side for a letter of its shelf, or None."""
    _check_letter(begin)
    rules = Rules(side)
    web = Web(rules)
    first = ("top", begin)
    known = {first: True}
    queue = [first]
    while queue:
        led = web.spun(queue.pop())
        for fact in led:
            if fact[0] == "break":
                return None
            if fact not in known:
                known[fact] = True
                queue.append(fact)
    return sorted(known)


def is_paper(side, facts, *, begin=EMPTY):
    """Tell whether facts are a paper of a side for a letter of its shelf."""
    _check_letter(begin)
    rules = Rules(side)
    if not isinstance(facts, list):
        return False
    known = {}
    for fact in facts:
        # What is no fact may be no key, and True would be taken for the row 1.
        if not isinstance(fact, tuple) or not rules.is_fact(fact) or fact in known:
            return False
        known[fact] = True
    web = Web(rules)
    for fact in facts:
        if not all([led in known for led in web.spun(fact)]):
            return False
    return ("top", begin) in known


def _check_letter(begin):
    """Refuse a letter with which no shelf begins."""
    if begin not in TOPS:
        raise NoLetter(begin)


class Web:
    """Facts, put in one by one, and what the rules lead to with each.

    From a top, or a wait on a helper of the other side, and an end it hangs on
    two letters of the end alone what follows; so of such ends one is enough.
    """

    def __init__(self, rules):
        self._rules = rules
        # By the shelf's letter at the begin of an end's call: tops and waits on
        # the other side that meet such ends; and the ends, one for each shelf.
        self._wide = {}
        self._wide_ends = {}
        # By the helper and that letter: waits on the own side, and all ends.
        self._narrow = {}
        self._narrow_ends = {}

    def spun(self, fact):
        """Put a fact in, and tell what follows from it, alone or with those put in ahead."""
        led = self._rules.from_one(fact)
        if fact[0] == "end":
            return led + self._spun_end(fact)
        if fact[0] == "wait" and not self._rules.calls_far(fact):
            return led + self._spun_narrow(fact)
        if fact[0] in ("top", "wait"):
            return led + self._spun_wide(fact)
        return led

    def _spun_end(self, end):
        """Put an end in, and tell what follows from it with others."""
        _, name, start, _, shelf = end
        others = list(self._narrow.get((name, start), []))
        self._narrow_ends.setdefault((name, start), []).append(end)
        ends = self._wide_ends.setdefault(start, {})
        if shelf not in ends:
            ends[shelf] = end
            others = others + self._wide.get(start, [])
        return self._joined([(other, end) for other in others])

    def _spun_narrow(self, wait):
        """Put a wait on the own side in, and tell what follows from it with ends."""
        key = (self._rules.called(wait), view(wait[6]))
        self._narrow.setdefault(key, []).append(wait)
        return self._joined([(wait, end) for end in self._narrow_ends.get(key, [])])

    def _spun_wide(self, fact):
        """Put a top or a wait on the other side in, and tell what follows from it with ends."""
        start = fact[1] if fact[0] == "top" else view(fact[6])
        self._wide.setdefault(start, []).append(fact)
        ends = self._wide_ends.get(start, {})
        return self._joined([(fact, end) for end in list(ends.values())])

    def _joined(self, couples):
        """Tell what follows from couples of facts."""
        return [led for fact, end in couples for led in self._rules.from_two(fact, end)]
