"""Words of errors, pacts of helpers, and the text of both."""

from pactford.errors import NoHelper, NoPact, NoText, NoWord
from pactford.kinds import is_name, is_side

MOST_PAIRS = 6
MOST_HELPERS = 4
MOST_TAKES = 3
MOST_THROWS = 4
TAKES = ("lent", "given")


class Pacts:
    """The pairs of words and the pacts of the helpers of both sides."""

    def __init__(self, pairs, helpers):
        self._pairs = []
        self._helpers = []
        for pair in pairs:
            if not _is_pair(pair) or not _fits_pairs(pair, self._pairs):
                raise NoPact(len(self._pairs))
            self._pairs.append(pair)
        for pact in helpers:
            if not _is_pact(pact) or not _fits_helpers(pact, self._pairs, self._helpers):
                raise NoPact(len(self._pairs) + len(self._helpers))
            self._helpers.append(pact)

    def pairs(self):
        """Tell the pairs, in order."""
        return list(self._pairs)

    def names(self, side):
        """Tell the names of the helpers of a side, in order."""
        return [pact[0] for pact in self._helpers if pact[1] == side]

    def pact(self, name):
        """Tell the pact of a helper."""
        for pact in self._helpers:
            if pact[0] == name:
                return pact
        raise NoHelper(name)

    def laden(self, word, *, side):
        """Tell whether the error that a side calls so carries a thing."""
        return self._pair(word, side)[2]

    def over(self, word, *, side):
        """Tell the word by which the other side calls the error."""
        return self._pair(word, side)[1 - side]

    def _pair(self, word, side):
        """Tell the pair of a word of a side."""
        # Without this look True would be taken for side 1.
        if is_side(side):
            for pair in self._pairs:
                if pair[side] == word:
                    return pair
        raise NoWord(word)

    def errors(self, name, *, side):
        """Tell the errors of a helper by the words of a side."""
        _, own, _, _, throws = self.pact(name)
        if own == side:
            return list(throws)
        return [self.over(word, side=own) for word in throws]

    def __len__(self):
        return len(self._helpers)

    def __eq__(self, other):
        return (isinstance(other, Pacts) and self._pairs == other._pairs
                and self._helpers == other._helpers)

    def __str__(self):
        words = [_pair_line(pair) for pair in self._pairs]
        helpers = [_helper_line(pact) for pact in self._helpers]
        return "\n".join(words + helpers)


def _is_pair(pair):
    """Tell whether pair is a pair of words, looked at by itself."""
    if not isinstance(pair, tuple) or len(pair) != 3:
        return False
    near, far, laden = pair
    return is_name(near) and is_name(far) and isinstance(laden, bool)


def _fits_pairs(pair, ahead):
    """Tell whether one more pair may stand behind the pairs ahead."""
    nears = [one[0] for one in ahead]
    fars = [one[1] for one in ahead]
    return len(ahead) < MOST_PAIRS and pair[0] not in nears and pair[1] not in fars


def _is_pact(pact):
    """Tell whether pact is one for some pairs, looked at by itself."""
    if not isinstance(pact, tuple) or len(pact) != 5:
        return False
    name, side, takes, gives, throws = pact
    if not is_name(name) or not is_side(side) or not isinstance(gives, bool):
        return False
    return _are_takes(takes) and _are_throws(throws)


def _are_takes(takes):
    """Tell whether takes may be the takes of a pact."""
    if not isinstance(takes, tuple) or len(takes) > MOST_TAKES:
        return False
    return all([take in TAKES for take in takes])


def _are_throws(throws):
    """Tell whether throws may be the throws of a pact, for some pairs."""
    if not isinstance(throws, tuple) or len(throws) > MOST_THROWS:
        return False
    return all([throws.count(word) == 1 for word in throws])


def _fits_helpers(pact, pairs, ahead):
    """Tell whether one more helper may stand behind the pairs and the helpers ahead."""
    name, side, _, _, throws = pact
    fellows = [one for one in ahead if one[1] == side]
    if len(fellows) == MOST_HELPERS or name in [one[0] for one in ahead]:
        return False
    words = [pair[side] for pair in pairs]
    return all([word in words for word in throws])


def _pair_line(pair):
    """Tell the line of a pair."""
    near, far, laden = pair
    return f"word {near} {far} laden" if laden else f"word {near} {far}"


def _helper_line(pact):
    """Tell the line of a pact."""
    name, side, takes, gives, throws = pact
    back = ["gives"] if gives else []
    thrown = ["throws", *throws] if throws else []
    return " ".join(["helper", name, str(side), *takes, *back, *thrown])


def read_pacts(text):
    """Tell the pacts of which text is the text."""
    pairs = []
    helpers = []
    lines = text.split("\n") if text else []
    for at, line in enumerate(lines):
        words = line.split(" ")
        if _has_pair_form(words) and not helpers:
            pairs.append((words[1], words[2], len(words) == 4))
        elif _has_helper_form(words):
            helpers.append(_read_helper(words))
        else:
            raise NoText(at)
    return Pacts(pairs, helpers)


def _has_pair_form(words):
    """Tell whether these are the words of a pair's line."""
    if "" in words or words[0] != "word":
        return False
    return len(words) == 3 or (len(words) == 4 and words[3] == "laden")


def _has_helper_form(words):
    """Tell whether these are the words of a helper's line."""
    if "" in words or words[0] != "helper":
        return False
    if len(words) < 3 or words[2] not in ("0", "1"):
        return False
    rest = words[_takes_end(words):]
    if rest and rest[0] == "gives":
        rest = rest[1:]
    return not rest or (rest[0] == "throws" and len(rest) > 1)


def _takes_end(words):
    """Tell where the takes of a helper's line end."""
    end = 3
    while end < len(words) and words[end] in TAKES:
        end += 1
    return end


def _read_helper(words):
    """Tell the pact of which these are the words."""
    end = _takes_end(words)
    takes = tuple(words[3:end])
    gives = words[end:end + 1] == ["gives"]
    behind = end + 1 if gives else end
    throws = tuple(words[behind + 1:])
    return (words[1], int(words[2]), takes, gives, throws)
