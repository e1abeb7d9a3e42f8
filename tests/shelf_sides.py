"""Sides by chance whose helpers break by what the shelf holds, so that it takes several calls to get there."""

from pactford.side import Side
from random_sides import POCKETS, helper_names

KINDS = "fill fill empty use lend call call call pick".split()
ROWS = {"fill": ["clear d", "make d", "put d"], "empty": ["clear d", "take d", "clear d"], "use": ["use shelf"],
        "lend": ["put a"], "pick": ["pick N"]}
CLEARED = [f"clear {pocket}" for pocket in POCKETS]


def shelf_side(rng, pacts, number):
    return Side(pacts, number, {name: shelf_body(rng, pacts, name) for name in pacts.names(number)})


def shelf_body(rng, pacts, name):
    _, side, _, gives, throws = pacts.pact(name)
    rows = []
    for _ in range(rng.randrange(1, 4)):
        kind = rng.choice(KINDS)
        more = called(rng, pacts, side) if kind == "call" else ROWS[kind]
        if rng.random() < 0.7:
            rows.append(f"pick {len(rows) + 1 + len(more)}")
        rows += more
    first_of_end = len(rows)
    word = rng.choice([*throws, "", ""])
    end = f"throw {word}" if word else "done"
    laden = pacts.laden(word, side=side) if word else gives
    rows += [*CLEARED, "make a", f"{end} a"] if laden else [*CLEARED, end]
    return "\n".join([settled(rng, row, at, first_of_end, len(rows)) for at, row in enumerate(rows)])


def called(rng, pacts, side):
    """Rows that call a helper, now and then with what is on the shelf."""
    name = rng.choice(helper_names(pacts))
    _, _, takes, gives, _ = pacts.pact(name)
    rows = CLEARED[1:]
    words = ["call", name]
    for pocket, take in zip("bcd", takes):
        if take == "lent" and rng.random() < 0.4:
            words += ["lend", "shelf"]
        else:
            rows.append(f"make {pocket}")
            words += ["lend" if take == "lent" else "give", pocket]
    if gives:
        words += ["to", "e"]
    for word in pacts.errors(name, side=side):
        if rng.random() < 0.85:
            words += ["on", word, *(["e"] if pacts.laden(word, side=side) else []), "N"]
    return [*rows, " ".join(words)]


def settled(rng, row, at, first_of_end, many):
    """The row with the number of a row that it leads to, now and then of one ahead."""
    ahead = rng.random() < 0.1
    row_number = rng.randrange(many) if ahead else rng.randrange(min(at + 1, first_of_end), first_of_end + 1)
    return " ".join([str(row_number) if word == "N" else word for word in row.split(" ")])
