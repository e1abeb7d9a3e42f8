"""Facts of a side, put in one by one, and what the rules lead to with each."""

from pactford.errors import NoLetter
from pactford.rules import TOPS, view


def check_letter(begin):
    """Refuse a letter with which no shelf begins."""
    if begin not in TOPS:
        raise NoLetter(begin)


def spread(rules, begin):
    """Tell what the rules lead to from a begin, up to the first break, and that break or None.

    Told is a dict from the facts, each behind those from which it follows, to
    these: (first, second), as a line has them, None for what there is not.
    """
    web = Web(rules)
    facts = [("top", begin)]
    known = {facts[0]: (None, None)}
    at = 0
    while at < len(facts):
        spun = web.spun(facts[at])
        for led, first, second in spun:
            if led not in known:
                known[led] = (first, second)
                facts.append(led)
            if led[0] == "break":
                return (known, led)
        at += 1
    return (known, None)


class Web:
    """Facts that were put in, and what follows from each, alone or with those put in ahead.

    From a top, or a wait on a helper of the other side, and an end it hangs on
    two letters of the end alone what follows; so of such ends one is enough.
    """

    def __init__(self, rules):
        self._rules = rules
        # By the shelf's letter at the begin of an end's call: tops and waits on
        # the other side that meet such ends; and the ends, one for each shelf.
        self._wide = {}
        self._wide_ends = {}
        # By the helper and that letter: waits on the own side, and all ends.
        self._narrow = {}
        self._narrow_ends = {}

    def spun(self, fact):
        """Put a fact in, and tell what follows, a list of (fact, first, second)."""
        alone = [(led, fact, None) for led in self._rules.from_one(fact)]
        if fact[0] == "end":
            return alone + self._spun_end(fact)
        if fact[0] == "wait" and not self._rules.calls_far(fact):
            return alone + self._spun_narrow(fact)
        if fact[0] in ("top", "wait"):
            return alone + self._spun_wide(fact)
        return alone

    def _spun_end(self, end):
        """Put an end in, and tell what follows from it with others."""
        _, name, start, _, shelf = end
        others = list(self._narrow.get((name, start), []))
        self._narrow_ends.setdefault((name, start), []).append(end)
        ends = self._wide_ends.setdefault(start, {})
        if shelf not in ends:
            ends[shelf] = end
            others = others + self._wide.get(start, [])
        return self._joined([(other, end) for other in others])

    def _spun_narrow(self, wait):
        """Put a wait on the own side in, and tell what follows from it with ends."""
        key = (self._rules.called(wait), view(wait[6]))
        self._narrow.setdefault(key, []).append(wait)
        return self._joined([(wait, end) for end in self._narrow_ends.get(key, [])])

    def _spun_wide(self, fact):
        """Put a top or a wait on the other side in, and tell what follows from it with ends."""
        start = fact[1] if fact[0] == "top" else view(fact[6])
        self._wide.setdefault(start, []).append(fact)
        ends = self._wide_ends.get(start, {})
        return self._joined([(fact, end) for end in list(ends.values())])

    def _joined(self, couples):
        """Tell what follows from couples of facts."""
        return [(led, fact, end) for fact, end in couples for led in self._rules.from_two(fact, end)]
