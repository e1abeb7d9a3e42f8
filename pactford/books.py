"""The books that are kept while a log is gone through: what is open, alive, held and due."""

from pactford.entries import has_form
from pactford.errors import NoHelper
from pactford.rules import REASONS
from pactford.table import Table

# What is let go of in a closing, in this order.
OF_CALLS = 0
OF_SHELVES = 1
OF_OUTSIDE = 2


class OpenCall:
    """A call that is open, and what is lent to it, as (handle, thing)."""

    def __init__(self, serial, pact):
        self.serial = serial
        self.side = pact[1]
        self.gives = pact[3]
        self.throws = pact[4]
        self.borrowed = []


class Books:
    """Takes the tuples of a log one by one, and tells of each whether it is right there.

    Behind one that is not right the books are not to be gone on with.
    """

    def __init__(self, pacts):
        self._pacts = pacts
        self._tables = (Table(), Table())
        # By side: the living handles, each with (thing, whether it is owned).
        self._living = ({}, {})
        # By thing: how many living handles of it are lent.
        self._loans = {}
        # The things that the outside holds.
        self._of_outside = {}
        self._calls = []
        self._made = 0
        self._entered = 0
        self._freed = 0
        # Of a call of the outside that must come: its first fresh thing, and the one to be handed in next.
        self._fresh = None
        self._next_fresh = 0
        # Of the last call: who entered it, None for the outside, and its takes that must come.
        self._by = None
        self._due = []
        # What comes to the last call, (word, side, thing), the word of a done having no signs.
        self._coming = None
        # In a closing: what was let go of last, and the thing of the error that came to the broke.
        self._rank = None
        self._carried = None

    def takes(self, entry):
        """Take one more tuple, and tell whether it is right here."""
        if not has_form(entry):
            return False
        word = entry[0]
        if self._rank is not None:
            return word == "freed" and self._close_on(entry)
        if self._due:
            return word in ("lent", "gave") and self._hand_over(entry)
        if self._coming is not None:
            return entry[1] == self._last() and self._come(entry)
        if self._fresh is not None and word not in ("made", "entered"):
            return False
        if word == "entered":
            return self._enter(entry)
        if entry[1] != self._last():
            return False
        if word == "made":
            return self._make(entry)
        if word == "freed":
            return self._let_go(entry)
        if not self._calls:
            return False
        if word == "used":
            return self._lives(self._calls[-1].side, entry[2], entry[3])
        if word == "ended":
            return self._end(entry)
        return word == "broke" and self._break(entry[2], REASONS)

    def is_even(self):
        """Tell whether the log may end here."""
        if self._rank is not None:
            return self._freed == self._made
        return not self._calls and self._fresh is None and self._coming is None

    def _last(self):
        """Tell the number of the last call, 0 where none is open."""
        return self._calls[-1].serial if self._calls else 0

    def _lives(self, side, handle, thing):
        """Tell whether a handle of a side lives, with this thing."""
        return handle in self._living[side] and self._living[side][handle][0] == thing

    def _owns(self, side, handle, thing):
        """Tell whether a handle of a side lives, with this thing, and is owned."""
        return self._living[side].get(handle) == (thing, True)

    def _begin(self, side, handle, thing, owned):
        """Begin a handle, and tell whether it is this one."""
        new = self._tables[side].begin(thing)
        self._living[side][new] = (thing, owned)
        return new == handle

    def _drop(self, side, handle):
        """End a handle that lives."""
        del self._living[side][handle]
        self._tables[side].end(handle)

    def _give_up(self, side, handle, thing):
        """End an owned handle of a thing that is lent to no open call, and tell whether it is one."""
        if not self._owns(side, handle, thing) or self._is_lent(thing):
            return False
        self._drop(side, handle)
        return True

    def _is_lent(self, thing):
        """Tell whether a handle of a thing that is lent to an open call lives."""
        return self._loans.get(thing, 0) > 0

    def _make(self, entry):
        """Take a made of the last call."""
        _, call, handle, thing = entry
        if thing != self._made:
            return False
        self._made += 1
        if call != 0:
            return self._begin(self._calls[-1].side, handle, thing, True)
        if self._fresh is None:
            self._fresh = thing
            self._next_fresh = thing
        self._of_outside[thing] = True
        return handle is None

    def _let_go(self, entry):
        """Take a freed of the last call; one of the outside's with a handle begins a closing."""
        _, call, handle, thing = entry
        if call == 0 and handle is not None:
            self._rank = (OF_SHELVES, -1)
            return self._close_on(entry)
        self._freed += 1
        if call != 0:
            return self._give_up(self._calls[-1].side, handle, thing)
        if thing not in self._of_outside:
            return False
        del self._of_outside[thing]
        return True

    def _enter(self, entry):
        """Take an entered."""
        _, call, name, by = entry
        if by != self._last() or call != self._entered + 1:
            return False
        try:
            pact = self._pacts.pact(name)
        except NoHelper:
            return False
        self._entered += 1
        self._by = self._calls[-1] if self._calls else None
        self._calls.append(OpenCall(call, pact))
        self._due = list(pact[2])
        return self._is_all_fresh_in()

    def _is_all_fresh_in(self):
        """Tell, where no take is due any more, whether each fresh thing was handed in."""
        if self._due or self._fresh is None:
            return True
        self._fresh = None
        return self._next_fresh == self._made

    def _hand_over(self, entry):
        """Take a lent or a gave for the last call."""
        word, by, handle, thing, call, new = entry
        given = self._due.pop(0) == "given"
        entered = self._calls[-1]
        if (word == "gave") != given or call != entered.serial:
            return False
        if by != (0 if self._by is None else self._by.serial):
            return False
        if by == 0:
            fine = handle is None and self._hand_in(thing, given)
        elif given:
            fine = self._give_up(self._by.side, handle, thing)
        else:
            fine = self._lives(self._by.side, handle, thing)
        if not given:
            entered.borrowed.append((new, thing))
            self._loans[thing] = self._loans.get(thing, 0) + 1
        return fine and self._begin(entered.side, new, thing, given) and self._is_all_fresh_in()

    def _hand_in(self, thing, given):
        """Let the outside hand in a thing, and tell whether it may."""
        if thing not in self._of_outside or (given and self._is_lent(thing)):
            return False
        if self._fresh is not None and thing >= self._fresh:
            if thing != self._next_fresh:
                return False
            self._next_fresh += 1
        if given:
            del self._of_outside[thing]
        return True

    def _end(self, entry):
        """Take an ended of the last call."""
        _, _, word, handle, thing = entry
        call = self._calls[-1]
        if word and word not in call.throws:
            return False
        laden = self._pacts.laden(word, side=call.side) if word else call.gives
        if laden and not self._give_up(call.side, handle, thing):
            return False
        if not laden and (handle is not None or thing is not None):
            return False
        self._leave()
        if word or laden:
            self._coming = (word, call.side, thing)
        return True

    def _leave(self):
        """Let the last call be over, and what is lent to it end."""
        call = self._calls.pop()
        for handle, thing in call.borrowed:
            self._drop(call.side, handle)
            self._loans[thing] -= 1

    def _come(self, entry):
        """Take what a thing or an error that comes to the last call must be followed by."""
        word, side, thing = self._coming
        if not word:
            return entry[0] == "got" and entry[3] == thing and self._arrive(entry[2], thing)
        if self._calls and self._calls[-1].side != side:
            word = self._pacts.over(word, side=side)
        if entry[0] == "caught":
            return entry[2] == word and entry[4] == thing and self._arrive(entry[3], thing)
        if not self._calls:
            return False
        if entry[0] == "passed":
            return entry[2] == word and self._pass(word, thing)
        self._carried = thing
        return entry[0] == "broke" and self._break(entry[2], ("unnamed", "kept"))

    def _arrive(self, new, thing):
        """Let the last call, or the outside, have what came to it, and tell whether it has it by this handle."""
        self._coming = None
        if thing is None:
            return new is None
        if self._calls:
            return self._begin(self._calls[-1].side, new, thing, True)
        self._of_outside[thing] = True
        return new is None

    def _pass(self, word, thing):
        """Let an error end the last call, and tell whether it may."""
        call = self._calls[-1]
        self._leave()
        self._coming = (word, call.side, thing)
        return word in call.throws

    def _break(self, reason, reasons):
        """Begin a closing with the last call, and tell whether it may break so."""
        self._rank = (OF_CALLS, 0)
        return reason in reasons

    def _close_on(self, entry):
        """Take a freed of a closing."""
        _, call, handle, thing = entry
        self._freed += 1
        if self._carried is not None:
            fine = call == self._last() and handle is None and thing == self._carried
            self._carried = None
            return fine
        side = 0 if self._owns(0, handle, thing) else 1
        rank = self._rank_of(call, handle, thing, side)
        # Of a call several are let go of, of each shelf and each thing of the outside just one.
        if rank is None or rank < self._rank or (rank == self._rank and rank[0] != OF_CALLS):
            return False
        self._rank = rank
        if handle is None:
            del self._of_outside[thing]
        else:
            self._drop(side, handle)
        return True

    def _rank_of(self, call, handle, thing, side):
        """Tell where in a closing this is let go of, by a handle of this side or none; None where it is not."""
        if call == 0 and handle is None:
            return (OF_OUTSIDE, thing) if thing in self._of_outside else None
        if not self._owns(side, handle, thing):
            return None
        if call == 0:
            return (OF_SHELVES, side)
        for at, one in enumerate(reversed(self._calls)):
            if one.serial == call and one.side == side:
                return (OF_CALLS, at)
        return None
