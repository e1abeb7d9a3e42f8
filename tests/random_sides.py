"""Pacts, sides and deeds by chance, for tests that go through many of them."""

from pactford.pacts import Pacts
from pactford.side import Side
from plain_rules import PlainRules

WORDS = ("ash", "birch", "cedar", "dogwood", "elm", "fir")
FAR_WORDS = ("iron", "jade", "kaolin", "lead", "ash", "mica")
NAMES = (("near", "nest", "nook", "note"), ("far", "field", "fort", "ford"))
POCKETS = "abcde"


def random_pacts(rng, *, most_helpers=3):
    pairs = [(WORDS[at], FAR_WORDS[at], rng.random() < 0.6) for at in range(rng.randrange(4))]
    helpers = []
    for side in (0, 1):
        words = [pair[side] for pair in pairs]
        for name in NAMES[side][:rng.randrange(1, most_helpers + 1)]:
            takes = tuple(rng.choice(("lent", "given")) for _ in range(rng.randrange(4)))
            throws = tuple(rng.sample(words, rng.choice((len(words), rng.randrange(len(words) + 1)))))
            helpers.append((name, side, takes, rng.random() < 0.5, throws))
    rng.shuffle(helpers)
    return Pacts(pairs, helpers)


def helper_names(pacts):
    return pacts.names(0) + pacts.names(1)


class Letters:
    """What the places hold most likely, so that chance does not break at once."""

    def __init__(self, rng, names, takes):
        self.rng = rng
        self.names = names
        self.of = {name: "E" for name in names}
        for name, take in zip(names, takes):
            self.of[name] = "O" if take == "given" else "H"

    def any(self, letters, names=None):
        names = names or self.names
        fit = [one for one in names if self.of[one] in letters]
        return self.rng.choice(fit if fit and self.rng.random() < 0.97 else names)


class RandomRows:
    def __init__(self, rng, pacts, name):
        _, side, takes, gives, throws = pacts.pact(name)
        state = Letters(rng, POCKETS, takes)
        rows = []
        for _ in range(rng.randrange(1, 16)):
            if rng.random() < 0.15:
                rows += bare_call(rng, pacts, side, state)
            else:
                rows.append(random_row(rng, pacts, side, state))
        first_of_end = len(rows)
        rows += random_ending(rng, pacts, side, gives, throws)
        self.rows = [settled(rng, row, at, first_of_end) for at, row in enumerate(rows)]

    def text(self):
        return "\n".join(self.rows)

    def mend(self, at):
        """Leave a row harmless."""
        self.rows[at] = "clear a"


def settled(rng, row, at, first_of_end):
    """The row with the numbers of rows that it needs."""
    words = row.split(" ")
    if words[0] == "go":
        return f"go {rng.randrange(at + 1, max(at + 1, first_of_end) + 1)}"
    if words[0] == "pick":
        return f"pick {rng.randrange(first_of_end + 1)}"
    if words[0] == "call":
        targets = [rng.randrange(min(at + 1, first_of_end), first_of_end + 1) for _ in words]
        return " ".join([str(target) if word == "N" else word for word, target in zip(words, targets)])
    return row


def bare_call(rng, pacts, side, state):
    """A call behind whose giving no pocket owns, without catches, so that an error may pass."""
    rows = [f"clear {pocket}" for pocket in POCKETS if state.of[pocket] == "O"]
    for pocket in POCKETS:
        state.of[pocket] = "E" if state.of[pocket] == "O" else state.of[pocket]
    name = rng.choice(helper_names(pacts))
    _, _, takes, gives, _ = pacts.pact(name)
    words = ["call", name]
    for pocket, take in zip("cde", takes):
        if take == "given":
            rows.append(f"make {pocket}")
            words += ["give", pocket]
            state.of[pocket] = "E"
        else:
            words += ["lend", rng.choice([one for one in POCKETS if state.of[one] == "H"] or ["shelf"])]
    if gives:
        words += ["to", "b"]
        state.of["b"] = "O"
    return [*rows, " ".join(words)]


ROWS = "make make use free clear forget move put take pick go call call call".split()


def random_row(rng, pacts, side, state):
    word = rng.choice(ROWS)
    if word == "make":
        pocket = state.any("EHX")
        state.of[pocket] = "O"
        return f"make {pocket}"
    if word == "use":
        return "use " + (state.any("OH") if rng.random() < 0.85 else "shelf")
    if word in ("free", "clear", "forget"):
        pocket = state.any({"free": "O", "clear": "EOHX", "forget": "EHX"}[word])
        state.of[pocket] = "E"
        return f"{word} {pocket}"
    if word in ("pick", "go"):
        return word
    if word == "call":
        return random_call(rng, pacts, side, state)
    if word == "put":
        pocket = state.any("OHX")
        state.of[pocket] = "E"
        return f"put {pocket}"
    target = state.any("EHX")
    if word == "take":
        state.of[target] = rng.choice("OHX")
        return f"take {target}"
    source = state.any("OHX", [pocket for pocket in POCKETS if pocket != target])
    state.of[target], state.of[source] = state.of[source], "E"
    return f"move {source} {target}"


def random_call(rng, pacts, side, state):
    name = rng.choice(helper_names(pacts))
    _, _, takes, gives, _ = pacts.pact(name)
    words = ["call", name]
    for take in takes:
        pocket = state.any("O" if take == "given" else "OH")
        if take == "given":
            state.of[pocket] = "E"
        elif rng.random() < 0.15:
            pocket = "shelf"
        words += ["give" if take == "given" else "lend", pocket]
    lands = []
    if gives:
        lands.append(state.any("EHX"))
        words += ["to", lands[-1]]
    for word in pacts.errors(name, side=side):
        if rng.random() < 0.6:
            words += ["on", word]
            if pacts.laden(word, side=side):
                words.append(state.any("EHX"))
            words.append("N")
    for pocket in lands:
        state.of[pocket] = "O"
    return " ".join(words)


def random_ending(rng, pacts, side, gives, throws):
    """An end, with all cleared ahead of it, and a thing made for it where it needs one."""
    word = rng.choice([*throws, ""])
    end = ["throw", word] if word else ["done"]
    if gives if not word else pacts.laden(word, side=side):
        end.append(rng.choice(POCKETS))
    cleared = [f"clear {pocket}" for pocket in POCKETS]
    made = [f"make {end[-1]}"] if len(end) == (3 if word else 2) else []
    return [*cleared, *made, " ".join(end)]


class RandomSaid:
    def __init__(self, rng, pacts, name):
        _, _, takes, _, throws = pacts.pact(name)
        names = rng.sample(("x", "y", "to", "make"), 4)
        maker = SaidMaker(rng, pacts, name, names)
        end = maker.end(rng.choice([*throws, ""]))
        made = [["make", end[-1]]] if len(end) == (3 if end[0] == "throw" else 2) else []
        self.names = names[:len(takes)]
        self.harmless = ["make", names[0]]
        self.statements = [*maker.listed(0, rng.randrange(1, 14)), *made, end]
        while len(numbered(self.statements)) > 60:
            self.statements.pop(0)

    def text(self):
        return bracketed([self.names, *self.statements])[1:-1]

    def mend(self, at):
        """Leave a statement harmless."""
        numbered(self.statements)[at][:] = self.harmless


def numbered(statements):
    """All statements, also those within others, by their numbers."""
    found = []
    for statement in statements:
        inner = [part for part in statement if isinstance(part, list)]
        if statement[0] == "call":
            inner = [arm[-1] for arm in inner[1:]]
        found.append(statement)
        for one in inner:
            found += numbered(one)
    return found


def bracketed(parts):
    return "(" + " ".join([bracketed(part) if isinstance(part, list) else part for part in parts]) + ")"


class SaidMaker:
    def __init__(self, rng, pacts, name, names):
        self.rng = rng
        self.pacts = pacts
        _, self.side, takes, self.gives, _ = pacts.pact(name)
        self.names = names
        self.state = Letters(rng, names, takes)

    def listed(self, depth, most):
        return [self.statement(depth) for _ in range(self.rng.randrange(most + 1))]

    def statement(self, depth):
        word = self.rng.choice("make make use use free put take pick again call call call call end".split())
        if word in ("pick", "again") and depth < 3:
            return [word, *[self.listed(depth + 1, 3) for _ in range(2 if word == "pick" else 1)]]
        if word == "call":
            return self.call(depth)
        if word == "end" and depth > 0:
            words = [pair[self.side] for pair in self.pacts.pairs()]
            return self.end(self.rng.choice(words) if words and self.rng.random() < 0.5 else "")
        if word == "use" and self.rng.random() < 0.15:
            return ["use", "shelf"]
        if word not in ("use", "free", "put", "take"):
            word = "make"
        name = self.state.any({"use": "OH", "free": "O", "put": "OHX"}.get(word, "EOHX"))
        self.state.of[name] = {"make": "O", "free": "E", "put": "E", "take": "O"}.get(word, self.state.of[name])
        return [word, name]

    def call(self, depth):
        name = self.rng.choice(helper_names(self.pacts))
        _, _, takes, gives, _ = self.pacts.pact(name)
        handed = []
        for take in takes:
            handed.append(self.state.any("O" if take == "given" else "OH"))
            if take == "given":
                self.state.of[handed[-1]] = "E"
            elif self.rng.random() < 0.15:
                handed[-1] = "shelf"
        parts = ["call", name, handed]
        if gives:
            parts += ["to", self.rng.choice(self.names)]
            self.state.of[parts[-1]] = "O"
        for word in self.pacts.errors(name, side=self.side):
            if self.rng.random() < 0.6:
                laden = self.pacts.laden(word, side=self.side)
                inner = self.listed(depth + 1, 2) if depth < 3 else []
                parts.append(["on", word, *([self.rng.choice(self.names)] if laden else []), inner])
        return parts

    def end(self, word):
        laden = self.gives if not word else self.pacts.laden(word, side=self.side)
        end = ["throw", word] if word else ["done"]
        return [*end, self.state.any("O")] if laden else end


def random_side(rng, pacts, number, *, said=0.5, mended=0.5):
    """A side: mended until it does not break from an empty shelf, or as it comes."""
    bodies = {name: (RandomSaid if rng.random() < said else RandomRows)(rng, pacts, name)
              for name in pacts.names(number)}
    mend = rng.random() < mended
    while True:
        side = Side(pacts, number, {name: body.text() for name, body in bodies.items()})
        facts = PlainRules(side).all_facts("E") if mend else []
        breaks = sorted([fact for fact in facts if fact[0] == "break"])
        if not breaks:
            return side
        for _, name, _, row, _ in breaks[:1]:
            bodies[name].mend(side.place(name, row))


def random_picks(rng, most=8):
    return [rng.choice((0, 1, 1, 2)) for _ in range(rng.randrange(most + 1))]


def random_things(rng, takes, held):
    """Entries that are not refused, most of them fresh."""
    if not takes or rng.random() < 0.3:
        return []
    entries = []
    left = list(held)
    for take in takes:
        if left and rng.random() < 0.6:
            entries.append(rng.choice(left))
            left.remove(entries[-1])
        else:
            entries.append(None)
    return entries


def random_deed(rng, pacts, held):
    """A deed as the plain runner takes it."""
    luck = rng.random()
    if luck < 0.04:
        return ("close",)
    if luck < 0.12 and held:
        return ("free", rng.choice(held))
    name = rng.choice(helper_names(pacts))
    return ("call", name, random_things(rng, pacts.pact(name)[2], held), random_picks(rng))


def do_deed(world, deed):
    if deed[0] == "call":
        return world.call(deed[1], deed[2], picks=deed[3])
    if deed[0] == "free":
        return world.let_go(deed[1])
    return world.close()
