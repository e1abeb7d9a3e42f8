"""Lines told anew by the plain rules: drawn ones, a look at them, and the counts of their runs."""


def drawn_facts(rng, rules, begin, most=1500):
    """Facts gone through in a drawn order, each with those from which it was led to, breaks too.

    Without a drawer each one is gone through as it comes.
    """
    how = {("top", begin): (None, None)}
    fresh = list(how)
    ends, others = [], []
    while fresh and len(how) < most:
        fact = fresh.pop(rng.randrange(len(fresh)) if rng else 0)
        led = [(one, fact, None) for one in rules.alone(fact)]
        if fact[0] == "end":
            ends.append(fact)
            led += [(one, other, fact) for other in others for one in rules.both(other, fact)]
        if fact[0] in ("top", "wait"):
            others.append(fact)
            led += [(one, fact, end) for end in ends for one in rules.both(fact, end)]
        if rng:
            rng.shuffle(led)
        for one, first, second in led:
            if one not in how:
                how[one] = (first, second)
                fresh.append(one)
    return how


def lines_to(how, target, besides=()):
    """Lines to a fact, with other facts besides, all in the order in which they were led to."""
    needed = set()
    queue = [target, *besides]
    while queue:
        fact = queue.pop()
        if fact is not None and fact not in needed:
            needed.add(fact)
            queue += how[fact]
    order = [fact for fact in how if fact in needed and fact != target] + [target]
    numbers = {fact: at for at, fact in enumerate(order)}
    return [(fact, *[None if one is None else numbers[one] for one in how[fact]]) for fact in order]


def drawn_lines(rng, rules, begin):
    """Lines to a drawn break, or None; with some facts besides."""
    how = drawn_facts(rng, rules, begin)
    breaks = [fact for fact in how if fact[0] == "break"]
    if not breaks:
        return None
    others = [fact for fact in how if fact[0] != "break"]
    return lines_to(how, rng.choice(breaks), rng.sample(others, min(len(others), rng.choice((0, 0, 3)))))


def are_lines(rules, told, begin):
    """Whether lines keep the words of point 33, for lists of three parts with facts of right forms."""
    facts = []
    for at, (fact, first, second) in enumerate(told):
        for number in (first, second):
            if number is not None and (isinstance(number, bool) or not 0 <= number < at):
                return False
        if fact in facts or (fact[0] == "break") != (at == len(told) - 1):
            return False
        if first is None:
            right = second is None and fact == ("top", begin)
        elif second is None:
            right = fact in rules.alone(facts[first])
        else:
            right = (facts[first][0] in ("wait", "top") and facts[second][0] == "end"
                     and fact in rules.both(facts[first], facts[second]))
        if not right:
            return False
        facts.append(fact)
    return bool(told)


class Counts:
    """The counts of lines by the words of point 34, as great as they are."""

    def __init__(self, rules, told):
        self.rules = rules
        self.told = told
        self.counts = {}
        for at, (fact, first, second) in enumerate(told):
            if fact[0] not in ("top", "enter"):
                self.counts[at] = self.count(fact, first, second)

    def count(self, fact, first, second):
        kind = self.told[first][0][0]
        if kind == "enter":
            return 1
        if second is not None:
            return self.counts[first] + self.counts[second]
        if kind == "stand" and fact[0] == "wait":
            called = self.rules.rows[fact[1]][fact[3]][1]
            return self.counts[first] + (1 if self.rules.is_far(called) else 0)
        return self.counts[first]

    def ahead(self, at, word):
        """The first line of a word to which the first numbers lead."""
        while self.told[at][0][0] != word:
            at = self.told[at][1]
        return at

    def outer(self, enter):
        first = self.told[enter][1]
        if self.told[first][0][0] == "top":
            return 0
        return self.counts[first] + self.outer(self.ahead(first, "enter"))

    def calls(self):
        """(helper, count) for each call of the road."""
        at = len(self.told) - 1
        enter = self.ahead(at, "enter")
        last = self.counts[at] + self.outer(enter)
        while self.told[self.told[enter][1]][0][0] == "wait":
            enter = self.ahead(self.told[enter][1], "enter")
        found = [(self.told[enter][0][1], last)]
        top = self.ahead(enter, "top")
        while self.told[top][1] is not None:
            end = self.told[top][2]
            found.append((self.told[end][0][1], self.counts[end]))
            top = self.told[top][1]
        return found[::-1]
