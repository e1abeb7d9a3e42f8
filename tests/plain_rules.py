"""The rules of point 31 told anew from the words of the document, at leisure.

Facts are gone through until nothing new comes. Rows are read from their texts.
"""

VIEW = {"E": "E", "O": "O", "H": "U", "U": "U", "X": "X", "B": "B"}


def back(letter, ahead):
    return {"H": "X", "U": ahead}.get(letter, letter)


class Break(Exception):
    pass


class Places(dict):
    """The letters by the names of their places."""

    def __init__(self, pockets, shelf):
        super().__init__(zip("abcde", pockets), shelf=shelf)

    def pockets(self):
        return "".join(self[pocket] for pocket in "abcde")

    def need(self, place, *, own=False):
        letter = self[place]
        if letter == "E":
            raise Break("empty")
        if letter == "X":
            raise Break("stale")
        if own and letter in "HU":
            raise Break("lent")

    def need_room(self, place):
        if self[place] in "OB":
            raise Break("full")

    def need_nothing_kept(self, but=None):
        for pocket in "abcde":
            if pocket != but and self[pocket] == "O":
                raise Break("kept")


class PlainRules:
    def __init__(self, side):
        self.pacts = side.pacts()
        self.number = side.number()
        self.names = self.pacts.names(self.number)
        self.rows = {name: [row.split(" ") for row in side.rows(name)] for name in self.names}

    def is_far(self, name):
        return self.pacts.pact(name)[1] != self.number

    def parts(self, row):
        """The helper of a call row, its arguments, the pocket of to, its catches."""
        name, rest = row[1], row[2:]
        handed = []
        for _ in self.pacts.pact(name)[2]:
            handed.append((rest[0], rest[1]))
            rest = rest[2:]
        to = None
        if self.pacts.pact(name)[3]:
            to, rest = rest[1], rest[2:]
        catches = {}
        while rest:
            if self.pacts.laden(rest[1], side=self.number):
                catches[rest[1]] = (rest[2], int(rest[3]))
                rest = rest[4:]
            else:
                catches[rest[1]] = (None, int(rest[2]))
                rest = rest[3:]
        return name, handed, to, catches

    def step(self, name, start, at, pockets, shelf):
        """Rule d: told are the facts that a stand leads to."""
        row = self.rows[name][at]
        places = Places(pockets, shelf)
        try:
            return self.looked(name, start, at, row, places)
        except Break as broke:
            return [("break", name, start, at, str(broke))]

    def looked(self, name, start, at, row, places):
        word, first = row[0], row[1] if len(row) > 1 else None
        if word == "call":
            return self.call(name, start, at, row, places)
        if word == "throw":
            if first not in self.pacts.pact(name)[4]:
                raise Break("unnamed")
            self.ending(row[2:], places)
            return [("end", name, start, first, places["shelf"])]
        if word == "done":
            self.ending(row[1:], places)
            return [("end", name, start, "", places["shelf"])]
        nexts = [at + 1]
        if word == "make":
            places.need_room(first)
            places[first] = "O"
        elif word == "use":
            places.need(first)
        elif word == "free":
            places.need(first, own=True)
            places[first] = "E"
        elif word == "clear":
            places[first] = "E"
        elif word == "forget":
            if places[first] == "O":
                raise Break("kept")
            places[first] = "E"
        elif word == "move":
            self.move(places, first, row[2])
        elif word == "put":
            self.move(places, first, "shelf")
        elif word == "take":
            self.move(places, "shelf", first)
        elif word == "pick":
            nexts.append(int(first))
        elif word == "go":
            nexts = [int(first)]
        return [("stand", name, start, one, places.pockets(), places["shelf"]) for one in nexts]

    def ending(self, pockets, places):
        for pocket in pockets:
            places.need(pocket, own=True)
        places.need_nothing_kept(*pockets)

    def move(self, places, source, target):
        if places[source] == "E":
            raise Break("empty")
        if places[source] == "B":
            raise Break("out")
        places.need_room(target)
        places[target] = places[source]
        places[source] = "E"

    def call(self, name, start, at, row, places):
        _, handed, to, catches = self.parts(row)
        held = places["shelf"]
        now = places["shelf"]
        ahead = dict(places)
        lent = []
        given = []
        for word, place in handed:
            places.need(place, own=word == "give")
            if word == "give":
                if place in lent:
                    raise Break("out")
                places[place] = "E"
                given.append(place)
            else:
                lent.append(place)
                if place == "shelf" and held == "O":
                    now = "B"
        lands = [to] + [pocket for pocket, _ in catches.values()]
        for pocket in lands:
            if pocket and pocket not in given and ahead[pocket] == "O":
                raise Break("full")
        return [("wait", name, start, at, places.pockets(), held, now)]

    def behind(self, wait, word, letter):
        """Rule g."""
        _, name, start, at, pockets, held, _ = wait
        if letter == "B" and held == "O":
            letter = "O"
        _, _, to, catches = self.parts(self.rows[name][at])
        places = Places(pockets, letter)
        if word != "" and word not in catches:
            if word not in self.pacts.pact(name)[4]:
                return ("break", name, start, at, "unnamed")
            if "O" in pockets:
                return ("break", name, start, at, "kept")
            return ("end", name, start, word, letter)
        pocket, row = (to, at + 1) if word == "" else catches[word]
        if pocket:
            places[pocket] = "O"
        return ("stand", name, start, row, places.pockets(), letter)

    def alone(self, fact):
        if fact[0] == "top":
            return [("enter", name, fact[1]) for name in self.names]
        if fact[0] == "enter":
            takes = self.pacts.pact(fact[1])[2]
            pockets = "".join("O" if take == "given" else "H" for take in takes).ljust(5, "E")
            return [("stand", fact[1], fact[2], 0, pockets, fact[2])]
        if fact[0] == "stand":
            return self.step(*fact[1:])
        if fact[0] == "wait":
            called = self.rows[fact[1]][fact[3]][1]
            if not self.is_far(called):
                return [("enter", called, VIEW[fact[6]])]
            words = ["", *self.pacts.errors(called, side=self.number)]
            return ([("enter", name, VIEW[fact[6]]) for name in self.names]
                    + [self.behind(fact, word, fact[6]) for word in words])
        return []

    def both(self, fact, end):
        if fact[0] == "top" and end[2] == fact[1] and end[4] in "EOXH":
            return [("top", "X" if end[4] == "H" else end[4])]
        if fact[0] == "wait" and end[2] == VIEW[fact[6]]:
            called = self.rows[fact[1]][fact[3]][1]
            letter = back(end[4], fact[6])
            if self.is_far(called):
                return [fact[:6] + (letter,)]
            if called == end[1]:
                return [self.behind(fact, end[3], letter)]
        return []

    def led(self, facts, others):
        """All facts to which the rules lead from one of the facts, or from one and one of the others."""
        found = []
        for fact in facts:
            found += self.alone(fact)
            for other in others if fact[0] in ("top", "wait", "end") else ():
                found += self.both(fact, other) if other[0] == "end" else []
                found += self.both(other, fact) if fact[0] == "end" else []
        return set(found)

    def all_facts(self, begin):
        """All facts to which the rules lead from nothing, breaks too."""
        facts = {("top", begin)}
        fresh = facts
        while fresh:
            fresh = self.led(fresh, facts) - facts
            facts = facts | fresh
        return facts
