"""Point 36 told anew: a log is read from its begin on, call within call.

Handles live in lists of (handle, thing, owned, the call to which it is lent), one for each side.
"""

REASONS = ("full", "empty", "stale", "lent", "kept", "out", "unnamed")
PARTS = {
    "made": ("call", "handle or None", "thing"), "used": ("call", "handle", "thing"),
    "freed": ("call", "handle or None", "thing"), "entered": ("call", "text", "call"),
    "lent": ("call", "handle or None", "thing", "call", "handle"),
    "gave": ("call", "handle or None", "thing", "call", "handle"),
    "ended": ("call", "text", "handle or None", "thing or None"), "passed": ("call", "text"),
    "got": ("call", "handle or None", "thing"), "caught": ("call", "text", "handle or None", "thing or None"),
    "broke": ("call", "text"),
}


class Wrong(Exception):
    pass


class Closing(Exception):
    """A call broke; carried is the thing of the error that came to it."""

    def __init__(self, carried):
        super().__init__()
        self.carried = carried


def need(fine):
    if not fine:
        raise Wrong


def is_number(part):
    return isinstance(part, int) and not isinstance(part, bool)


def fits(part, kind):
    if kind.endswith(" or None"):
        return part is None or fits(part, kind[:-8])
    if kind == "text":
        return isinstance(part, str)
    if kind == "handle":
        return isinstance(part, tuple) and len(part) == 2 and is_number(part[0]) and is_number(part[1])
    return is_number(part) and part >= 0


def has_form(entry):
    if not isinstance(entry, tuple) or len(entry) == 0 or entry[0] not in PARTS:
        return False
    kinds = PARTS[entry[0]]
    return len(entry) == len(kinds) + 1 and all(fits(part, kind) for part, kind in zip(entry[1:], kinds))


def plain_is_ledger(pacts, log):
    if not isinstance(log, list) or not all(has_form(entry) for entry in log):
        return False
    try:
        Reader(pacts, log).read()
    except Wrong:
        return False
    return True


class Reader:
    def __init__(self, pacts, log):
        self.pacts = pacts
        self.log = log
        self.at = 0
        self.alive = ([], [])
        self.turns = ({}, {})
        self.outside = []
        self.made = 0
        self.entered = 0
        self.freed = []
        self.open = []

    def peek(self):
        return self.log[self.at] if self.at < len(self.log) else (None,) * 6

    def next(self, *words):
        entry = self.peek()
        need(entry[0] in words)
        self.at += 1
        return entry

    def begin(self, side, thing, owned, call, told):
        places = [handle[0] for handle, _, _, _ in self.alive[side]]
        place = min(set(range(len(places) + 1)) - set(places))
        turn = self.turns[side].get(place, 0)
        self.turns[side][place] = turn + 1
        need(told == (place, turn))
        self.alive[side].append((told, thing, owned, call))

    def finds(self, side, handle, thing):
        return [row for row in self.alive[side] if row[:2] == (handle, thing)]

    def end_owned(self, side, handle, thing, *, closing=False):
        rows = [row for row in self.finds(side, handle, thing) if row[2]]
        need(rows)
        if not closing:
            need(not [row for rows in self.alive for row in rows if row[1] == thing and not row[2]])
        self.alive[side].remove(rows[0])

    def over(self, call, side):
        self.alive[side][:] = [row for row in self.alive[side] if row[3] != call]
        self.open.pop()

    def read(self):
        while self.at < len(self.log):
            word, _, handle = self.peek()[:3]
            if word == "freed" and handle is not None:
                need(self.peek()[1] == 0)
                return self.close(None)
            if word == "freed":
                _, call, _, thing = self.next("freed")
                need(call == 0 and thing in self.outside)
                self.outside.remove(thing)
                self.freed.append(thing)
            else:
                try:
                    self.deed()
                except Closing as closing:
                    return self.close(closing.carried)

    def deed(self):
        fresh = []
        while self.peek()[0] == "made":
            _, call, handle, thing = self.next("made")
            need((call, handle, thing) == (0, None, self.made))
            self.made += 1
            self.outside.append(thing)
            fresh.append(thing)
        word, _, thing = self.call(0, None, fresh)
        if word:
            need(self.next("caught") == ("caught", 0, word, None, thing))
        elif thing is not None:
            need(self.next("got") == ("got", 0, None, thing))
        if thing is not None:
            self.outside.append(thing)

    def call(self, by, by_side, fresh):
        """Read a whole call; told are its word, its side and its thing."""
        _, call, name, told_by = self.next("entered")
        self.entered += 1
        need(call == self.entered and told_by == by)
        need(name in self.pacts.names(0) + self.pacts.names(1))
        pact = self.pacts.pact(name)
        self.open.append((call, pact[1]))
        handed = []
        for take in pact[2]:
            word, giver, handle, thing, taker, new = self.next("gave" if take == "given" else "lent")
            need(giver == by and taker == call)
            self.hand(word, by, by_side, handle, thing)
            handed.append(thing)
            self.begin(pact[1], thing, word == "gave", None if word == "gave" else call, new)
        need([thing for thing in handed if thing in fresh] == fresh)
        return self.body(call, pact)

    def hand(self, word, by, side, handle, thing):
        if by == 0:
            need(handle is None and thing in self.outside)
            if word == "gave":
                need(not [row for rows in self.alive for row in rows if row[1] == thing])
                self.outside.remove(thing)
        elif word == "gave":
            self.end_owned(side, handle, thing)
        else:
            need(self.finds(side, handle, thing))

    def body(self, call, pact):
        name, side, _, gives, throws = pact
        while True:
            entry = self.peek()
            if entry[0] == "entered":
                come = self.call(call, side, [])
                came = self.come(call, pact, come)
                if came is not None:
                    return came
                continue
            word = self.next("made", "used", "freed", "ended", "broke")[0]
            need(entry[1] == call)
            if word == "made":
                need(entry[3] == self.made)
                self.made += 1
                self.begin(side, entry[3], True, None, entry[2])
            elif word == "used":
                need(self.finds(side, entry[2], entry[3]))
            elif word == "freed":
                self.end_owned(side, entry[2], entry[3])
                self.freed.append(entry[3])
            elif word == "broke":
                need(entry[2] in REASONS)
                raise Closing(None)
            else:
                return self.ended(entry, call, side, gives, throws)

    def ended(self, entry, call, side, gives, throws):
        _, _, word, handle, thing = entry
        need(word == "" or word in throws)
        if self.pacts.laden(word, side=side) if word else gives:
            self.end_owned(side, handle, thing)
        else:
            need(handle is None and thing is None)
        self.over(call, side)
        return word, side, thing

    def come(self, call, pact, come):
        """What comes to a call; told is what passes it, else None."""
        word, other, thing = come
        side = pact[1]
        if not word:
            if thing is not None:
                entry = self.next("got")
                need((entry[1], entry[3]) == (call, thing))
                self.begin(side, thing, True, None, entry[2])
            return None
        word = word if side == other else self.pacts.over(word, side=other)
        entry = self.next("caught", "passed", "broke")
        need(entry[1] == call)
        if entry[0] == "broke":
            need(entry[2] in ("unnamed", "kept"))
            raise Closing(thing)
        need(entry[2] == word)
        if entry[0] == "passed":
            need(word in pact[4])
            self.over(call, side)
            return word, side, thing
        need(entry[4] == thing)
        if thing is None:
            need(entry[3] is None)
        else:
            self.begin(side, thing, True, None, entry[3])
        return None

    def close(self, carried):
        told = [self.next("freed")[1:] for _ in range(self.at, len(self.log))]
        if carried is not None:
            need(told and told[0] == (self.open[-1][0], None, carried))
            self.freed.append(carried)
            told = told[1:]
        for call, side in self.open[::-1]:
            while told and told[0][0] == call:
                self.end_owned(side, *told[0][1:], closing=True)
                self.freed.append(told[0][2])
                told = told[1:]
        for side in (0, 1):
            if told and told[0][0] == 0 and told[0][1] is not None:
                if [row for row in self.finds(side, *told[0][1:]) if row[2]]:
                    self.end_owned(side, *told[0][1:], closing=True)
                    self.freed.append(told[0][2])
                    told = told[1:]
        things = [thing for call, handle, thing in told]
        need(all(call == 0 and handle is None and thing in self.outside for call, handle, thing in told))
        need(things == sorted(set(things)))
        self.freed += things
        need(sorted(self.freed) == list(range(self.made)))
