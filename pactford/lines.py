"""Lines: how the rules lead to a break of a side that has no paper."""

from pactford.kinds import is_whole
from pactford.papers import EMPTY
from pactford.rules import Rules
from pactford.web import check_letter, spread


def lines(side, *, begin=EMPTY):
    """Tell lines of a side for a letter of its shelf, or None where it has a paper."""
    check_letter(begin)
    known, broken = spread(Rules(side), begin)
    if broken is None:
        return None
    needed = _needed(known, broken)
    numbers = {}
    told = []
    for fact in known:
        if fact in needed:
            first, second = known[fact]
            numbers[fact] = len(told)
            told.append((fact, numbers.get(first), numbers.get(second)))
    return told


def _needed(known, broken):
    """Tell, as keys, the facts by which the rules lead to a break, the break among them."""
    needed = {broken: True}
    queue = [broken]
    while queue:
        ahead = known[queue.pop()]
        for fact in ahead:
            if fact is not None and fact not in needed:
                needed[fact] = True
                queue.append(fact)
    return needed


def is_lines(side, told, *, begin=EMPTY):
    """Tell whether something told are lines of a side for a letter of its shelf."""
    check_letter(begin)
    rules = Rules(side)
    if not isinstance(told, list) or not told:
        return False
    facts = []
    known = {}
    for line in told:
        # What is no fact may be no key, and True would be taken for the row 1.
        if not _has_form(rules, line, len(facts), len(told)) or line[0] in known:
            return False
        if not _follows(rules, line, facts, begin):
            return False
        known[line[0]] = True
        facts.append(line[0])
    return True


def _has_form(rules, line, at, many):
    """Tell whether something may be the line of this number of so many, looked at by itself."""
    if not isinstance(line, tuple) or len(line) != 3:
        return False
    fact, first, second = line
    fine = rules.is_break(fact) if at == many - 1 else rules.is_fact(fact)
    return fine and _is_ahead(first, at) and _is_ahead(second, at)


def _is_ahead(number, at):
    """Tell whether something is None or the number of a line ahead of this one."""
    return number is None or (is_whole(number) and 0 <= number < at)


def _follows(rules, line, facts, begin):
    """Tell whether the fact of a line follows from what it tells of the facts of the lines ahead."""
    fact, first, second = line
    if first is None:
        return second is None and fact == ("top", begin)
    if second is None:
        return fact in rules.from_one(facts[first])
    if facts[first][0] not in ("top", "wait") or facts[second][0] != "end":
        return False
    return fact in rules.from_two(facts[first], facts[second])
