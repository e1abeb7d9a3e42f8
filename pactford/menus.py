"""The bodies of a partner: calls and ends to be had by picks.

Such a body begins, and begins anew behind each call, by clearing all pockets;
then each pick in turn is asked for one thing to do: the helpers of the other
side to be called, in order, then the errors to be thrown, in order; where each
one is 0, it is done.
"""

from pactford.places import PLACES

CLEARED = ("clear a", "clear b", "clear c", "clear d", "clear e")
# A thing that comes back, and one that comes with an error; the pockets ahead are for what is handed in.
BROUGHT = "d"
CAUGHT = "e"
# The pick behind a call that lets the body begin anew.
ANEW = 1


def menu(pacts, name):
    """Tell the body in rows of a helper of a partner."""
    _, number, _, _, throws = pacts.pact(name)
    called = pacts.names(1 - number)
    first = len(CLEARED) + len(called) + len(throws)
    picks = []
    behind = _ending(pacts, name, "")
    for other in called:
        row = first + len(behind)
        picks.append(f"pick {row}")
        behind = behind + _calling(pacts, name, other, row)
    for word in throws:
        picks.append(f"pick {first + len(behind)}")
        behind = behind + _ending(pacts, name, word)
    return "\n".join([*CLEARED, *picks, *behind])


def _ending(pacts, name, word):
    """Tell the rows that end a call, by a word or, where it has no signs, by a done."""
    _, number, _, gives, _ = pacts.pact(name)
    laden = pacts.laden(word, side=number) if word else gives
    end = f"throw {word}" if word else "done"
    return [*CLEARED, "make a", f"{end} a"] if laden else [*CLEARED, end]


def _calling(pacts, name, other, row):
    """Tell the rows, the first one of this number, that call another helper with fresh things."""
    number = pacts.pact(name)[1]
    _, _, takes, gives, _ = pacts.pact(other)
    words = ["call", other]
    for at, take in enumerate(takes):
        words = [*words, "give" if take == "given" else "lend", PLACES[at]]
    if gives:
        words = [*words, "to", BROUGHT]
    behind = row + len(takes) + 1
    for word in pacts.errors(other, side=number):
        caught = [CAUGHT] if pacts.laden(word, side=number) else []
        words = [*words, "on", word, *caught, str(behind)]
    made = [f"make {PLACES[at]}" for at in range(len(takes))]
    return [*made, " ".join(words), "pick 0", *_ending(pacts, name, "")]


def picks_to_call(pacts, name, called):
    """Tell the picks by which a helper of a partner calls another helper."""
    names = pacts.names(1 - pacts.pact(name)[1])
    return [0] * names.index(called) + [1]


def picks_to_end(pacts, name, word):
    """Tell the picks by which a helper of a partner ends, by its own word for it."""
    _, number, _, _, throws = pacts.pact(name)
    calls = [0] * len(pacts.names(1 - number))
    if not word:
        return calls + [0] * len(throws)
    return calls + [0] * throws.index(word) + [1]
