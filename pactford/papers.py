"""Papers: lists of facts that show that a side by itself never breaks."""

from pactford.rules import Rules
from pactford.web import Web, check_letter, spread

EMPTY = "E"


def paper(side, *, begin=EMPTY):
    """Tell the least paper of a side for a letter of its shelf, or None."""
    check_letter(begin)
    known, broken = spread(Rules(side), begin)
    return sorted(known) if broken is None else None


def is_paper(side, facts, *, begin=EMPTY):
    """Tell whether facts are a paper of a side for a letter of its shelf."""
    check_letter(begin)
    rules = Rules(side)
    if not isinstance(facts, list):
        return False
    known = {}
    for fact in facts:
        # What is no fact may be no key, and True would be taken for the row 1.
        if not rules.is_fact(fact) or fact in known:
            return False
        known[fact] = True
    web = Web(rules)
    for fact in facts:
        if not all([led in known for led, _, _ in web.spun(fact)]):
            return False
    return ("top", begin) in known
