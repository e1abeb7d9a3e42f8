"""The plain runner: what a world does, without tables and without turned rows."""

from pactford.calls import Call, Picks
from pactford.errors import Closed, TooDeep, TooLong
from pactford.looks import first_fail
from pactford.outside import check_held, check_sides, check_things
from pactford.places import SHELF, SPARE
from pactford.world import CALLS

MOST_DEEP = 12


def plain_run(near, far, deeds):
    """Tell the story and the break of a world of two sides behind deeds of the outside."""
    check_sides(near, far)
    runner = Runner(near, far)
    for deed in deeds:
        if runner.shut:
            raise Closed("a deed behind a break or a close")
        if deed[0] == "call":
            runner.call(deed[1], deed[2], deed[3])
        elif deed[0] == "free":
            runner.free(deed[1])
        else:
            runner.close()
    return (runner.told, runner.fault)


class Broke(Exception):
    """A look failed in the last entered call; an error that passes may bear a thing."""

    def __init__(self, reason, place, lender, thing):
        Exception.__init__(self, f"broke: {reason}")
        self.reason = reason
        self.at = place
        self.lender = lender
        self.thing = thing


class Runner:
    """Runs deed by deed, and tells the story and the break.

    What a place holds is None or (thing, the call that it is lent to, the row
    that lent it), both None where it is owned. What is lent to a call is dead
    once that call is over.
    """

    def __init__(self, near, far):
        self._sides = (near, far)
        self._pacts = near.pacts()
        self._shelves = [None, None]
        self._of_outside = {}
        self._things = 0
        self._entered = 0
        # The open calls, the last entered one last.
        self._calls = []
        self._picks = Picks(())
        self._left = 0
        self.told = []
        self.fault = None
        self.shut = False

    def call(self, name, things, picks):
        """Call a helper from the outside."""
        pact = self._pacts.pact(name)
        check_things(pact[2], things, self._of_outside)
        self._picks = Picks(picks)
        self._left = CALLS
        try:
            self._deliver(pact, self._call_from_outside(pact, things))
        except Broke as broke:
            self._break(broke.reason, broke.at, broke.lender, broke.thing)

    def free(self, thing):
        """Let go of a thing that the outside holds."""
        check_held(thing, self._of_outside, thing)
        self._free_outside(thing)

    def close(self):
        """Let go of all that shelves own and that the outside holds."""
        for held in self._shelves:
            if _owned(held):
                self.told.append(("freed", 0, held[0]))
        for thing in sorted(self._of_outside):
            self._free_outside(thing)
        self.shut = True

    def _free_outside(self, thing):
        """Let go of a thing of the outside."""
        del self._of_outside[thing]
        self.told.append(("freed", 0, thing))

    def _call_from_outside(self, pact, things):
        """Make the fresh things, hand all over, and tell how the call ended."""
        handed = []
        for thing in list(things) if things else [None] * len(pact[2]):
            handed.append(self._make(0) if thing is None else thing)
            self._of_outside[handed[-1]] = True
        call = self._new_call(pact, (0, 0))
        for at, take in enumerate(pact[2]):
            if take == "given":
                del self._of_outside[handed[at]]
            self._hand_over(call, at, handed[at], take == "given")
        return self._run(call)

    def _deliver(self, pact, ended):
        """Let the outside have what a call brought."""
        word, thing = ended
        if thing is not None:
            self._of_outside[thing] = True
        if word:
            self.told.append(("caught", 0, word, thing))
        elif pact[3]:
            self.told.append(("got", 0, thing))

    def _break(self, reason, place, lender, thing):
        """Tell the break of the last entered call, and let go of everything."""
        broken = self._calls[-1]
        self.fault = (reason, broken.serial, broken.name, place, lender)
        self.told.append(("broke", broken.serial, reason))
        if thing is not None:
            self.told.append(("freed", broken.serial, thing))
        for call in reversed(self._calls):
            for held in call.pockets:
                if _owned(held):
                    self.told.append(("freed", call.serial, held[0]))
        self.close()

    def _make(self, serial):
        """Make a thing in a call, and tell its number."""
        self._things += 1
        self.told.append(("made", serial, self._things - 1))
        return self._things - 1

    def _new_call(self, pact, lender):
        """Enter a call, as yet without its things."""
        self._left -= 1
        self._entered += 1
        call = Call(self._entered, pact, lender)
        self._calls.append(call)
        self.told.append(("entered", call.serial, call.name, lender[0]))
        return call

    def _hand_over(self, call, pocket, thing, given):
        """Hand one thing over to a call that is being entered."""
        call.pockets[pocket] = (thing, None, None) if given else (thing, call.serial, call.lender)
        self.told.append(("gave" if given else "lent", call.lender[0], thing, call.serial))

    def _run(self, call):
        """Run a call that was entered, and tell (word, thing) by which it ended."""
        body = self._sides[call.side].parsed(call.name)
        if body.statements is None:
            ended = self._run_rows(call, body.steps)
        else:
            ended = self._run_list(call, body.many, body.statements)
        self._calls.pop()
        return ended

    def _call_on(self, caller, place, step):
        """Do a call row or statement, and tell (word, thing) as its side calls it."""
        self._look(caller, place, step)
        if self._left == 0:
            raise TooLong("more calls would be entered than may be")
        if len(self._calls) == MOST_DEEP:
            raise TooDeep("more calls would be within one another than may be")
        _, name, handed, to, _ = step
        call = self._new_call(self._pacts.pact(name), (caller.serial, place))
        for at, (source, given) in enumerate(handed):
            thing = self._held(caller, source)[0]
            if given:
                caller.pockets[source] = None
            elif source == SHELF:
                call.loans.append((caller.side, thing))
            self._hand_over(call, at, thing, given)
        word, thing = self._run(call)
        if word and call.side != caller.side:
            word = self._pacts.over(word, side=call.side)
        if to is not None and not word:
            caller.pockets[to] = (thing, None, None)
            self.told.append(("got", caller.serial, thing))
        return (word, thing)

    def _catch(self, call, word, thing, pocket):
        """Let a call catch an error, its thing in a pocket where it is laden."""
        if pocket is not None:
            call.pockets[pocket] = (thing, None, None)
        self.told.append(("caught", call.serial, word, thing))

    def _held(self, call, place):
        """Tell what a place of a call holds."""
        return self._shelves[call.side] if place == SHELF else call.pockets[place]

    def _letters(self, call):
        """Tell the letters of the places of a call."""
        shelf = self._letter(self._shelves[call.side])
        if shelf == "O" and self._loan(call) is not None:
            shelf = "B"
        return "".join([self._letter(held) for held in call.pockets]) + shelf

    def _letter(self, held):
        """Tell the letter of what a place holds."""
        if held is None:
            return "E"
        if held[1] is None:
            return "O"
        return "H" if held[1] in [call.serial for call in self._calls] else "X"

    def _loan(self, call):
        """Tell the last row that lent out the thing that the shelf of a call's side owns, or None."""
        loan = (call.side, self._shelves[call.side][0])
        for entered in reversed(self._calls):
            if loan in entered.loans:
                return entered.lender
        return None

    def _look(self, call, place, step):
        """Break where a look of a step fails."""
        failed = first_fail(step, self._letters(call), call.throws)
        if failed is None:
            return
        reason, where = failed
        lender = None
        if reason in ("stale", "lent"):
            lender = self._held(call, where)[2]
        elif reason == "out":
            lender = (call.serial, place) if step[0] == "call" else self._loan(call)
        raise Broke(reason, place, lender, None)

    def _do(self, call, place, step):
        """Look and do a step that stays within the places of its call."""
        self._look(call, place, step)
        held = self._held(call, step[1])
        if step[0] == "make":
            self._hold(call, step[1], (self._make(call.serial), None, None))
        elif step[0] == "use":
            self.told.append(("used", call.serial, held[0]))
        elif step[0] == "move":
            self._hold(call, step[2], held)
            self._hold(call, step[1], None)
        else:
            if _owned(held):
                self.told.append(("freed", call.serial, held[0]))
            self._hold(call, step[1], None)

    def _hold(self, call, place, held):
        """Let a place of a call hold something, or nothing."""
        if place == SHELF:
            self._shelves[call.side] = held
        else:
            call.pockets[place] = held

    def _end(self, call, place, step):
        """Look and end a call, and tell (word, thing)."""
        self._look(call, place, step)
        _, word, pocket = step
        thing = None if pocket is None else call.pockets[pocket][0]
        self.told.append(("ended", call.serial, word, thing))
        return (word, thing)

    def _run_rows(self, call, steps):
        """Run a body in rows, and tell (word, thing) by which the call ended."""
        row = 0
        while True:
            step = steps[row]
            if step[0] == "end":
                return self._end(call, row, step)
            if step[0] == "call":
                ended = self._call_on(call, row, step)
                row = self._row_behind(call, row, step, ended)
                if row is None:
                    return ended
            elif step[0] in ("pick", "go"):
                row = step[1] if step[0] == "go" or self._picks.take() != 0 else row + 1
            else:
                self._do(call, row, step)
                row += 1

    def _row_behind(self, call, row, step, ended):
        """Tell the row that is next behind a call row, None where an error passes."""
        word, thing = ended
        if not word:
            return row + 1
        for caught, pocket, target in step[4]:
            if caught == word:
                self._catch(call, word, thing, pocket)
                return target
        failed = first_fail(("end", word, None), self._letters(call), call.throws)
        if failed is not None:
            raise Broke(failed[0], row, None, thing)
        self.told.append(("passed", call.serial, word))
        return None

    def _run_list(self, call, many, statements):
        """Run statements of a body of so many names, and tell (word, thing) where the call ended, else None."""
        for statement in statements:
            ended = self._say(call, many, statement)
            if ended is not None:
                return ended
        return None

    def _say(self, call, many, statement):
        """Run one statement."""
        number, word = statement[0], statement[1]
        if word == "pick":
            return self._run_list(call, many, statement[2] if self._picks.take() != 0 else statement[3])
        if word == "again":
            return self._again(call, many, statement[2])
        if word == "call":
            return self._say_call(call, many, statement)
        if word == "end":
            return self._say_end(call, many, number, (word, statement[2], statement[3]))
        if word in ("make", "take"):
            self._do(call, number, ("clear", statement[2]))
        if word == "take":
            self._do(call, number, ("move", SHELF, statement[2]))
        elif word == "put":
            self._do(call, number, ("move", statement[2], SHELF))
        else:
            self._do(call, number, (word, statement[2]))
        return None

    def _again(self, call, many, inner):
        """Run a list as long as the next pick is not 0."""
        ended = None
        while ended is None and self._picks.take() != 0:
            ended = self._run_list(call, many, inner)
        return ended

    def _say_end(self, call, many, number, step):
        """Clear all other names, then end the call."""
        for pocket in range(many):
            if pocket != step[2]:
                self._do(call, number, ("clear", pocket))
        return self._end(call, number, step)

    def _say_call(self, call, many, statement):
        """Run a call and the arm of the error that comes of it; without an arm it is thrown on."""
        number, _, name, handed, to, arms = statement
        step = ("call", name, handed, None if to is None else SPARE, ())
        word, thing = self._call_on(call, number, step)
        if not word:
            self._keep(call, number, to)
            return None
        spare = None if thing is None else SPARE
        self._catch(call, word, thing, spare)
        for caught, pocket, inner in arms:
            if caught == word:
                self._keep(call, number, pocket)
                return self._run_list(call, many, inner)
        return self._say_end(call, many, number, ("end", word, spare))

    def _keep(self, call, number, pocket):
        """Let a name hold what came to the spare pocket, where it is told one."""
        if pocket is not None:
            self._do(call, number, ("clear", pocket))
            self._do(call, number, ("move", SPARE, pocket))


def _owned(held):
    """Tell whether what a place holds is owned."""
    return held is not None and held[1] is None
