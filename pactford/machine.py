"""The machine: one call of the outside and all that comes of it, by handles."""

from pactford.calls import Call, Picks
from pactford.errors import Ended, TooLong
from pactford.looks import first_fail
from pactford.places import SHELF


class RowCall(Call):
    """An open call, its body in rows, and the handles that end with it."""

    def __init__(self, serial, pact, lender, steps):
        Call.__init__(self, serial, pact, lender)
        self.steps = steps
        self.row = 0
        self.lent = []


class Machine:
    """Runs one call of the outside over the sides and the stock of a world.

    Behind the run the outcome is what the world tells of the call, and the
    fault what it tells of the break, None where nothing broke.
    """

    def __init__(self, sides, stock, picks, most):
        self._sides = sides
        self._pacts = sides[0].pacts()
        self._stock = stock
        self._picks = Picks(picks)
        self._left = most
        # The open calls, the last entered one last.
        self._calls = []
        # By (side, thing) that is lent out of that shelf: the rows that lent it, the last one last.
        self._loans = {}
        self.outcome = None
        self.fault = None

    def run(self, name, things):
        """Call a helper from the outside, with a list of things, None for a fresh one."""
        self._enter_from_outside(name, things)
        while self.outcome is None:
            self._go_on(self._calls[-1])

    def _write(self, entry):
        """Put an entry to the log."""
        self._stock.entries.append(entry)

    def _table(self, call):
        """Tell the table of a call's side."""
        return self._stock.tables[call.side]

    def _enter_from_outside(self, name, things):
        """Make the fresh things, then enter the call of the outside."""
        handed = []
        for thing in things:
            if thing is None:
                thing = self._stock.new_thing()
                self._stock.gain(thing)
                self._write(("made", 0, None, thing))
            handed.append(thing)
        call = self._new_call(name, 0, 0)
        for at, take in enumerate(self._pacts.pact(name)[2]):
            if take == "given":
                self._stock.lose(handed[at])
                self._give(call, at, None, handed[at])
            else:
                self._lend(call, at, None, handed[at])

    def _enter(self, caller, step):
        """Hand over what a call row hands over, and enter its helper."""
        entered = self._new_call(step[1], caller.serial, self._place(caller))
        for at, (place, given) in enumerate(step[2]):
            handle = self._held(caller, place)[0]
            if given:
                thing = self._table(caller).end(handle)
                caller.pockets[place] = None
                self._give(entered, at, handle, thing)
                continue
            thing = self._table(caller).look(handle)
            self._lend(entered, at, handle, thing)
            if place == SHELF:
                entered.loans.append((caller.side, thing))
                self._loans.setdefault((caller.side, thing), []).append(entered.lender)

    def _new_call(self, name, by, place):
        """Enter a call by a row of another one, as yet without its things."""
        if self._left == 0:
            raise TooLong("more calls would be entered than may be")
        self._left -= 1
        pact = self._pacts.pact(name)
        steps = self._sides[pact[1]].parsed(name).steps
        call = RowCall(self._stock.new_call(), pact, (by, place), steps)
        self._calls.append(call)
        self._write(("entered", call.serial, name, by))
        return call

    def _give(self, call, pocket, handle, thing):
        """Let a call that is being entered own a thing."""
        new = self._table(call).begin(thing)
        call.pockets[pocket] = (new, None)
        self._write(("gave", call.lender[0], handle, thing, call.serial, new))

    def _lend(self, call, pocket, handle, thing):
        """Lend a thing to a call that is being entered."""
        new = self._table(call).begin(thing)
        call.pockets[pocket] = (new, call.lender)
        call.lent.append(new)
        self._write(("lent", call.lender[0], handle, thing, call.serial, new))

    def _held(self, call, place):
        """Tell what a place of a call holds."""
        return self._stock.shelves[call.side] if place == SHELF else call.pockets[place]

    def _place(self, call):
        """Tell the place of the row of a call that is next, or waits."""
        return self._sides[call.side].place(call.name, call.row)

    def _letters(self, call):
        """Tell the letters of the places of a call."""
        shelf = self._letter(call, self._stock.shelves[call.side])
        if shelf == "O" and self._loans_of_shelf(call):
            shelf = "B"
        return "".join([self._letter(call, held) for held in call.pockets]) + shelf

    def _letter(self, call, held):
        """Tell the letter of what a place of a call holds."""
        if held is None:
            return "E"
        if held[1] is None:
            return "O"
        try:
            self._table(call).look(held[0])
        except Ended:
            return "X"
        return "H"

    def _loans_of_shelf(self, call):
        """Tell the rows that lent out the thing that the shelf of a call's side owns."""
        thing = self._table(call).look(self._stock.shelves[call.side][0])
        return self._loans.get((call.side, thing), [])

    def _lender(self, call, step, reason, place):
        """Tell the row that lent, where a look failed for this reason."""
        if reason in ("stale", "lent"):
            return self._held(call, place)[1]
        if reason == "out":
            return (call.serial, self._place(call)) if step[0] == "call" else self._loans_of_shelf(call)[-1]
        return None

    def _go_on(self, call):
        """Do the row of a call that is next."""
        step = call.steps[call.row]
        failed = first_fail(step, self._letters(call), call.throws)
        if failed is not None:
            self._break(call, failed[0], self._lender(call, step, failed[0], failed[1]), None)
        elif step[0] == "call":
            self._enter(call, step)
        elif step[0] == "end":
            self._end(call, step[1], step[2])
        elif step[0] in ("pick", "go"):
            call.row = step[1] if step[0] == "go" or self._picks.take() != 0 else call.row + 1
        else:
            self._do(call, step)
            call.row += 1

    def _do(self, call, step):
        """Do a row that stays within the places of its call."""
        word, place = step[0], step[1]
        if word == "make":
            thing = self._stock.new_thing()
            self._hold(call, place, (self._table(call).begin(thing), None))
            self._write(("made", call.serial, call.pockets[place][0], thing))
        elif word == "use":
            handle = self._held(call, place)[0]
            self._write(("used", call.serial, handle, self._table(call).look(handle)))
        elif word == "move":
            self._hold(call, step[2], self._held(call, place))
            self._hold(call, place, None)
        else:
            self._let_go(call, place)
            self._hold(call, place, None)

    def _hold(self, call, place, held):
        """Let a place of a call hold something, or nothing."""
        if place == SHELF:
            self._stock.shelves[call.side] = held
        else:
            call.pockets[place] = held

    def _let_go(self, call, place):
        """Let go of what a pocket of a call owns, if it does."""
        held = call.pockets[place]
        if held is not None and held[1] is None:
            self._write(("freed", call.serial, held[0], self._table(call).end(held[0])))

    def _end(self, call, word, pocket):
        """End a call by a done or a throw."""
        handle = None
        thing = None
        if pocket is not None:
            handle = call.pockets[pocket][0]
            thing = self._table(call).end(handle)
        self._write(("ended", call.serial, word, handle, thing))
        self._leave(call)
        if word:
            self._bring_error(word, thing, call.side)
        else:
            self._bring_thing(thing)

    def _leave(self, call):
        """Let the last entered call be over, and what was lent to it end."""
        for handle in call.lent:
            self._table(call).end(handle)
        for loan in call.loans:
            self._loans[loan].pop()
        self._calls.pop()

    def _bring_thing(self, thing):
        """Bring what a done brings, if anything, to the caller."""
        if not self._calls:
            self.outcome = ("done", "", thing)
            if thing is not None:
                self._stock.gain(thing)
                self._write(("got", 0, None, thing))
            return
        caller = self._calls[-1]
        if thing is not None:
            new = self._own(caller, caller.steps[caller.row][3], thing)
            self._write(("got", caller.serial, new, thing))
        caller.row += 1

    def _own(self, call, pocket, thing):
        """Let a pocket of a call own a thing that comes to it, and tell the handle."""
        new = self._table(call).begin(thing)
        call.pockets[pocket] = (new, None)
        return new

    def _bring_error(self, word, thing, side):
        """Bring an error, by the word of a side, to the callers, until one catches it."""
        while self._calls:
            caller = self._calls[-1]
            if caller.side != side:
                word = self._pacts.over(word, side=side)
                side = caller.side
            if self._caught(caller, word, thing):
                return
            failed = first_fail(("end", word, None), self._letters(caller), caller.throws)
            if failed is not None:
                self._break(caller, failed[0], None, thing)
                return
            self._write(("passed", caller.serial, word))
            self._leave(caller)
        self.outcome = ("threw", word, thing)
        if thing is not None:
            self._stock.gain(thing)
        self._write(("caught", 0, word, None, thing))

    def _caught(self, call, word, thing):
        """Let a call that waits catch an error, and tell whether it does."""
        catches = call.steps[call.row][4]
        for caught, pocket, row in catches:
            if caught == word:
                new = None if thing is None else self._own(call, pocket, thing)
                self._write(("caught", call.serial, word, new, thing))
                call.row = row
                return True
        return False

    def _break(self, call, reason, lender, thing):
        """Break at the row of a call, and let go of everything; an error that passes may bear a thing."""
        self.outcome = ("broke", reason, None)
        self.fault = (reason, call.serial, call.name, self._place(call), lender)
        self._write(("broke", call.serial, reason))
        if thing is not None:
            self._write(("freed", call.serial, None, thing))
        for one in reversed(self._calls):
            for pocket in range(SHELF):
                self._let_go(one, pocket)
            for handle in one.lent:
                self._table(one).end(handle)
        self._stock.let_go_of_all()
