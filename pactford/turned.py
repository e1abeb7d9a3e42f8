"""Said bodies turned into rows."""

from pactford.places import PLACES, SPARE


def turn(pacts, name, many, statements):
    """Tell rows that do what the statements of a helper's body with so many names do.

    Told are two lists: the texts of the rows, and for each row the number of
    the statement to which it belongs.
    """
    turner = Turner(pacts, name, many)
    turner.turn(statements)
    return (turner.texts, turner.numbers)


class Turner:
    """Turns the statements of one helper's body, one after the other."""

    def __init__(self, pacts, name, many):
        self._pacts = pacts
        self._side = pacts.pact(name)[1]
        self._many = many
        self.texts = []
        self.numbers = []

    def turn(self, statements):
        """Turn statements that stand behind one another."""
        for statement in statements:
            number, word = statement[0], statement[1]
            if word == "pick":
                self._pick(number, statement[2], statement[3])
            elif word == "again":
                self._again(number, statement[2])
            elif word == "call":
                self._call(statement)
            elif word == "end":
                self._end(number, statement[2], statement[3])
            else:
                self._simple(number, word, statement[2])

    def _row(self, number, text):
        """Put a row of the statement of this number behind the others."""
        self.numbers.append(number)
        self.texts.append(text)

    def _gap(self, number):
        """Put a row that is written later, and tell its number."""
        self._row(number, "")
        return len(self.texts) - 1

    def _jump_here(self, gap, word):
        """Write a row that leads to the next one."""
        self.texts[gap] = f"{word} {len(self.texts)}"

    def _simple(self, number, word, place):
        """Turn a make, a take, a use, a free or a put."""
        if word in ("make", "take"):
            self._row(number, f"clear {PLACES[place]}")
        self._row(number, f"{word} {PLACES[place]}")

    def _pick(self, number, first, second):
        """Turn a pick: the second list stands ahead of the first one."""
        pick = self._gap(number)
        self.turn(second)
        go = self._gap(number)
        self._jump_here(pick, "pick")
        self.turn(first)
        self._jump_here(go, "go")

    def _again(self, number, inner):
        """Turn an again: its pick stands behind its list, and leads back."""
        go = self._gap(number)
        self.turn(inner)
        self._jump_here(go, "go")
        self._row(number, f"pick {go + 1}")

    def _call(self, statement):
        """Turn a call, and behind it what is done for all that comes of it."""
        number, _, name, handed, to, arms = statement
        words = ["call", name]
        for place, given in handed:
            words = [*words, "give" if given else "lend", PLACES[place]]
        if to is not None:
            words = [*words, "to", PLACES[SPARE]]
        call = self._gap(number)
        self._hold(number, to)
        errors = self._pacts.errors(name, side=self._side)
        goes = [self._gap(number)] if errors else []
        for word, pocket, inner in arms:
            errors.remove(word)
            words = words + self._catch(word)
            self._hold(number, pocket)
            self.turn(inner)
            goes.append(self._gap(number))
        for word in errors:
            words = words + self._catch(word)
            self._end(number, word, SPARE if self._laden(word) else None)
        self.texts[call] = " ".join(words)
        for go in goes:
            self._jump_here(go, "go")

    def _laden(self, word):
        """Tell whether the error that the side calls so carries a thing."""
        return self._pacts.laden(word, side=self._side)

    def _catch(self, word):
        """Tell the words of a catch that leads to the next row."""
        spare = [PLACES[SPARE]] if self._laden(word) else []
        return ["on", word, *spare, str(len(self.texts))]

    def _hold(self, number, pocket):
        """Turn what follows on a thing that came to the spare pocket for a name, where one did."""
        if pocket is not None:
            self._row(number, f"clear {PLACES[pocket]}")
            self._row(number, f"move {PLACES[SPARE]} {PLACES[pocket]}")

    def _end(self, number, word, pocket):
        """Turn an end: all other names are cleared ahead of it."""
        for other in range(self._many):
            if other != pocket:
                self._row(number, f"clear {PLACES[other]}")
        words = ["throw", word] if word else ["done"]
        behind = [] if pocket is None else [PLACES[pocket]]
        self._row(number, " ".join([*words, *behind]))
