"""Points 13 and 15: what each row looks at first, in order; breaks, their reasons and their lenders."""

import unittest

from making import PAIRS, world_of

HELPERS = [
    ("run", 0, ("lent",), True, ("spilt", "shut")),
    ("first", 0, (), False, ()),
    ("outer", 0, ("lent",), False, ()),
    ("stash", 0, ("lent",), False, ()),
    ("uses", 1, ("lent",), False, ()),
    ("eats", 1, ("given",), False, ()),
    ("brings", 1, (), True, ("full", "barred")),
    ("many", 1, ("lent", "given", "lent"), True, ("full", "barred")),
]
TAIL = ["clear a", "clear b", "clear c", "clear d", "clear e", "make a", "done a"]
BODIES = {
    "first": "make a\ncall {} lend a\nfree a\ndone",
    "outer": "put a\nmake b\ncall run lend b to c on spilt c 3 on shut 3\nclear c\nfree b\ndone",
    "stash": "put a\ndone",
    "uses": "use a\ndone",
    "eats": "free a\ndone",
    "brings": "make a\ndone a",
    "many": "done b",
}
# For each letter of pocket c: the helper that first calls, the rows that bring it about, and who lent it.
LETTERS = {
    "E": (None, [], None),
    "O": (None, ["make c"], None),
    "H": (None, ["move a c"], (0, 0)),
    "U": ("outer", ["take c"], (1, 1)),
    "X": ("stash", ["take c"], (1, 1)),
}
# For each row what comes of it by the letter of c, "-" where nothing breaks.
OUTCOMES = {
    "make c": {"E": "-", "O": "full", "H": "-", "U": "-", "X": "-"},
    "use c": {"E": "empty", "O": "-", "H": "-", "U": "-", "X": "stale"},
    "free c": {"E": "empty", "O": "-", "H": "lent", "U": "lent", "X": "stale"},
    "clear c": {"E": "-", "O": "-", "H": "-", "U": "-", "X": "-"},
    "forget c": {"E": "-", "O": "kept", "H": "-", "U": "-", "X": "-"},
    "move c d": {"E": "empty", "O": "-", "H": "-", "U": "-", "X": "-"},
    "move b c": {"E": "-", "O": "full", "H": "-", "U": "-", "X": "-"},
    "put c": {"E": "empty", "O": "-", "H": "-", "U": "-", "X": "-"},
    "take c": {"E": "-", "O": "full", "H": "-", "U": "-", "X": "-"},
    "call uses lend c": {"E": "empty", "O": "-", "H": "-", "U": "-", "X": "stale"},
    "call eats give c": {"E": "empty", "O": "-", "H": "lent", "U": "lent", "X": "stale"},
    "call brings to c": {"E": "-", "O": "full", "H": "-", "U": "-", "X": "-"},
    "call brings to d on spilt c 0": {"E": "-", "O": "full", "H": "-", "U": "-", "X": "-"},
    "done c": {"E": "empty", "O": "-", "H": "lent", "U": "lent", "X": "stale"},
    "throw spilt c": {"E": "empty", "O": "-", "H": "lent", "U": "lent", "X": "stale"},
}
# What some rows need ahead of them, beside pocket c.
AHEAD = {"move b c": ["make b"], "take c": ["make b", "put b"]}


def broken_run(rows, letter="E", bodies=()):
    """A world in which run has done these rows, with c as the letter tells, and the number of run's call."""
    first, ahead, _ = LETTERS[letter]
    world = world_of(HELPERS, {**BODIES, "first": BODIES["first"].format(first or "outer"),
                               "run": "\n".join([*ahead, *rows, *TAIL]), **dict(bodies)})
    if first != "outer":
        if first is not None:
            world.call("first")
        return world, world.call("run"), len([entry for entry in world.log() if entry[0] == "entered"])
    return world, world.call("first"), 3


class EachRowAndLetter(unittest.TestCase):
    def test_all(self):
        for row, outcomes in OUTCOMES.items():
            for letter, reason in outcomes.items():
                with self.subTest(row, letter=letter):
                    self.check(row, letter, reason)

    def check(self, row, letter, reason):
        rows = AHEAD.get(row, [])
        world, told, call = broken_run([*rows, row], letter)
        if reason == "-":
            self.assertNotEqual(told[0], "broke")
            self.assertIsNone(world.broken())
            return
        lender = LETTERS[letter][2] if reason in ("stale", "lent") else None
        place = len(LETTERS[letter][1]) + len(rows)
        self.assertEqual(told, ("broke", reason, None))
        self.assertEqual(world.broken(), (reason, call if letter in "UX" else 1, "run", place, lender))
        # A row that surely does nothing tells what a row that breaks has to leave.
        other, _, _ = broken_run([*rows, "free e"], letter)
        self.assertEqual([entry for entry in world.log() if entry[0] != "broke"],
                         [entry for entry in other.log() if entry[0] != "broke"])


class OtherLooks(unittest.TestCase):
    def broken(self, *rows, letter="E", bodies=()):
        return broken_run(list(rows), letter, bodies)[0].broken()

    def test_shelf(self):
        self.assertEqual(self.broken("use shelf"), ("empty", 1, "run", 0, None))
        self.assertEqual(self.broken("call uses lend shelf"), ("empty", 1, "run", 0, None))
        self.assertEqual(self.broken("take b"), ("empty", 1, "run", 0, None))
        self.assertEqual(self.broken("make b", "put b", "make c", "put c"), ("full", 1, "run", 3, None))
        self.assertIsNone(self.broken("put a", "use shelf", "make b", "put b", "use shelf", "call uses lend shelf"))
        self.assertEqual(self.broken("put c", "use shelf", letter="X"), ("stale", 3, "run", 2, (1, 1)))
        self.assertEqual(self.broken("put c", "call uses lend shelf", letter="X"), ("stale", 3, "run", 2, (1, 1)))
        self.assertIsNone(self.broken("put c", "take d", "put d", letter="X"))

    def test_empty_ahead_of_full(self):
        self.assertEqual(self.broken("make b", "move c b")[0], "empty")
        self.assertEqual(self.broken("make b", "put b", "put c")[0], "empty")
        self.assertEqual(self.broken("make b", "take b")[0], "empty")

    def test_unnamed(self):
        bodies = {"uses": "throw barred", "eats": "throw full b", "brings": "throw full b"}
        for row in ("call uses lend a", "make b\ncall eats give b"):
            world, told, _ = broken_run(row.split("\n"), bodies=bodies)
            self.assertEqual(told, ("broke", "unnamed", None))
            self.assertEqual(world.broken()[1:], (2, "uses" if "uses" in row else "eats", 0, None))
        self.assertEqual(self.broken("call brings to b", bodies=bodies), ("empty", 2, "brings", 0, None))

    def test_unnamed_comes_first(self):
        bodies = {"eats": "throw full b", "uses": "make b\nthrow barred"}
        self.assertEqual(self.broken("make b", "call eats give b", bodies=bodies), ("unnamed", 2, "eats", 0, None))
        self.assertEqual(self.broken("call uses lend a", bodies=bodies), ("unnamed", 2, "uses", 1, None))

    def test_kept_at_an_end(self):
        for end in ("done b", "throw spilt b"):
            self.assertEqual(self.broken("make b", "make e", end), ("kept", 1, "run", 2, None))
            self.assertEqual(self.broken("make c", end), ("empty", 1, "run", 1, None))
            self.assertEqual(self.broken("make c", end.replace("b", "a")), ("lent", 1, "run", 1, (0, 0)))
            self.assertEqual(self.broken("make d", end.replace("b", "c"), letter="X"), ("stale", 3, "run", 2, (1, 1)))
            self.assertIsNone(self.broken("make b", "move a c", end))
        for pocket in "abcde":
            self.assertEqual(self.broken("clear a", f"make {pocket}", "throw shut"), ("kept", 1, "run", 2, None))
        self.assertIsNone(self.broken("throw shut"))
        self.assertEqual(self.broken("make b", "call eats give b", bodies={"eats": "done"}), ("kept", 2, "eats", 0, None))

    def test_a_shelf_that_owns_is_not_kept(self):
        self.assertIsNone(self.broken("make b", "put b", "throw shut"))
        self.assertIsNone(self.broken("make b", "put b", "make c", "done c"))

    def test_the_last_pocket_and_the_lender_of_a_call(self):
        bodies = {"uses": "clear b\nfree a\ndone"}
        self.assertEqual(self.broken("make b", "make e", "call uses lend e", bodies=bodies),
                         ("lent", 2, "uses", 1, (1, 2)))
        self.assertEqual(self.broken("call uses lend a", bodies=bodies), ("lent", 2, "uses", 1, (1, 0)))


class CallRows(unittest.TestCase):
    """Call rows with more than one thing: run has a lent by (0, 0), and what rows make."""

    def broken(self, *rows, letter="E"):
        return broken_run(list(rows), letter)[0].broken()

    def test_arguments_in_order(self):
        for row, reason in (
                ("call many lend b give c lend d to e", "empty"), ("call many lend a give a lend b to e", "lent"),
                ("call many lend a give b lend c to e", "empty"), ("call many lend a give d lend d to e", "empty"),
                ("call many lend d give d lend d to e", "out"), ("call many lend d give d lend b to e", "out"),
                ("call many lend b give d lend d to e", "empty"), ("call many lend d give b lend d to e", "empty")):
            with self.subTest(row):
                self.assertEqual(self.broken("make d", row)[0], reason)

    def test_right_ones(self):
        for row in ("call many lend a give d lend a to e", "call many lend e give d lend e to d",
                    "call many lend a give d lend e to b", "call many lend a give d lend a to d on spilt d 2",
                    "call many lend a give d lend a to b on spilt b 2 on shut 2",
                    "call many lend a give d lend a to a on spilt a 2"):
            with self.subTest(row):
                self.assertIsNone(self.broken("make d", "make e", row.replace("to e", "to b"), "clear b", "clear d"))

    def test_stale_among_others(self):
        self.assertEqual(self.broken("make d", "call many lend c give d lend b to e", letter="X"),
                         ("stale", 3, "run", 2, (1, 1)))
        self.assertEqual(self.broken("make d", "call many lend d give c lend b to e", letter="X"),
                         ("stale", 3, "run", 2, (1, 1)))
        self.assertEqual(self.broken("make d", "call many lend d give d lend c to e", letter="X"),
                         ("out", 3, "run", 2, (3, 2)))
        self.assertEqual(self.broken("make d", "call many lend a give d lend c to e", letter="X"),
                         ("stale", 3, "run", 2, (1, 1)))

    def test_lent_ahead_of_out(self):
        self.assertEqual(self.broken("call many lend a give a lend a to e"), ("lent", 1, "run", 0, (0, 0)))

    def test_the_lender_of_out_is_the_row_itself(self):
        self.assertEqual(self.broken("make d", "clear b", "call many lend d give d lend d to e"),
                         ("out", 1, "run", 2, (1, 2)))

    def test_full_comes_last(self):
        self.assertEqual(self.broken("make e", "call many lend b give c lend d to e")[0], "empty")
        self.assertEqual(self.broken("make e", "make d", "call many lend e give d lend b to e")[0], "empty")
        for row in ("call many lend e give d lend a to e", "call many lend a give d lend a to e",
                    "call many lend a give d lend a to b on spilt e 0",
                    "call many lend a give d lend a to d on shut 0 on spilt e 0",
                    "call brings to e", "call brings to b on spilt e 0", "call brings to e on spilt b 0"):
            with self.subTest(row):
                self.assertEqual(self.broken("make e", "make d", row), ("full", 1, "run", 2, None))

    def test_a_lent_pocket_is_still_full(self):
        self.assertEqual(self.broken("make d", "make e", "call many lend d give e lend a to d")[0], "full")

    def test_the_shelf_is_lent(self):
        self.assertIsNone(self.broken("make d", "put d", "make d", "call many lend shelf give d lend shelf to d"))


class Out(unittest.TestCase):
    """A thing that is lent out of the shelf."""

    HELPERS = [
        ("keep", 0, (), False, ()), ("grab", 0, (), False, ()), ("mid", 0, ("lent",), False, ()),
        ("via", 1, ("lent",), False, ()), ("over", 1, (), False, ()),
    ]

    def world(self, **bodies):
        calm = {"keep": "make a\nput a\ncall via lend shelf\ntake a\nfree a\ndone", "grab": "take a\nfree a\ndone",
                "mid": "done", "via": "call grab\ndone", "over": "done"}
        return world_of(self.HELPERS, {**calm, **bodies})

    def test_taken_while_it_is_lent_out(self):
        world = self.world()
        self.assertEqual(world.call("keep"), ("broke", "out", None))
        self.assertEqual(world.broken(), ("out", 3, "grab", 0, (1, 2)))

    def test_the_call_for_which_it_was_lent_may_not_either(self):
        world = self.world(keep="make a\nput a\nclear b\ncall mid lend shelf\ndone", mid="clear a\ntake b\nfree b\ndone")
        world.call("keep")
        self.assertEqual(world.broken(), ("out", 2, "mid", 1, (1, 3)))

    def test_out_comes_ahead_of_full(self):
        world = self.world(grab="make a\ntake a\ndone")
        world.call("keep")
        self.assertEqual(world.broken(), ("out", 3, "grab", 1, (1, 2)))

    def test_given_on_while_it_is_lent_out(self):
        helpers = [*self.HELPERS, ("eat", 1, ("given",), False, ())]
        for mid in ("make b\nuse b\ncall eat give a\ndone", "(x) (make y) (use y) (call eat (x)) (done)"):
            world = world_of(helpers, {"keep": "make a\nput a\ncall mid lend shelf\ndone", "mid": mid, "grab": "done",
                                       "via": "done", "over": "done", "eat": "free a\ndone"})
            self.assertEqual(world.call("keep"), ("broke", "lent", None))
            self.assertEqual(world.broken(), ("lent", 2, "mid", 2, (1, 2)))

    def test_the_last_row_that_lent_it_is_told(self):
        world = self.world(keep="make a\nput a\ncall mid lend shelf\ndone",
                           mid="clear a\ncall via lend shelf\ndone", grab="call over\ntake a\nfree a\ndone")
        world.call("keep")
        self.assertEqual(world.broken(), ("out", 4, "grab", 1, (2, 1)))

    def test_a_row_that_lent_it_and_is_over_is_not_told(self):
        world = self.world(keep="make a\nput a\ncall mid lend shelf\ndone",
                           mid="call via lend shelf\ntake b\ndone", via="done")
        world.call("keep")
        self.assertEqual(world.broken(), ("out", 2, "mid", 1, (1, 2)))

    def test_what_is_lent_on_from_a_pocket_is_out_all_the_same(self):
        world = self.world(keep="make a\nput a\ncall mid lend shelf\ndone", mid="call via lend a\ndone")
        world.call("keep")
        self.assertEqual(world.broken(), ("out", 4, "grab", 0, (1, 2)))

    def test_behind_the_call_it_may_be_taken(self):
        world = self.world(via="use a\ndone")
        self.assertEqual(world.call("keep"), ("done", "", None))

    def test_behind_an_error_it_may_be_taken(self):
        pairs = [("shut", "barred", False)]
        helpers = [("keep", 0, (), False, ()), ("via", 1, ("lent",), False, ("barred",))]
        world = world_of(helpers, {"keep": "make a\nput a\ncall via lend shelf on shut 3\ntake a\nfree a\ndone",
                                   "via": "throw barred"}, pairs)
        self.assertEqual(world.call("keep"), ("done", "", None))

    def test_it_stays_on_the_shelf_and_may_be_used_and_lent_again(self):
        world = self.world(grab="use shelf\ncall over\ncall mid lend shelf\ndone", mid="use a\ndone")
        self.assertEqual(world.call("keep"), ("done", "", None))

    def test_put_is_full(self):
        world = self.world(grab="make a\nput a\ndone")
        world.call("keep")
        self.assertEqual(world.broken(), ("full", 3, "grab", 1, None))

    def test_another_thing_on_the_shelf_may_be_taken(self):
        # The shelf holds a lent handle when it is lent; then another thing comes to it.
        world = self.world(mid="put a\ncall via lend shelf\ndone", keep="make a\ncall mid lend a\nfree a\ndone",
                           grab="take a\nmake b\nput b\ntake b\nfree b\ndone")
        self.assertEqual(world.call("keep"), ("done", "", None))

    def test_a_lent_handle_on_the_shelf_is_not_out(self):
        world = self.world(mid="put a\ncall via lend shelf\ndone", keep="make a\ncall mid lend a\nfree a\ndone",
                           grab="take a\nuse a\ndone")
        self.assertEqual(world.call("keep"), ("done", "", None))

    def test_the_other_sides_shelf_is_another_one(self):
        world = self.world(keep="make a\nput a\ncall via lend shelf\ntake a\nfree a\ndone",
                           via="make b\nput b\ncall over\ndone", over="take a\nfree a\ndone")
        self.assertEqual(world.call("keep"), ("done", "", None))


class PassingErrors(unittest.TestCase):
    HELPERS = [
        ("top", 0, ("given",), False, ("spilt",)), ("bare", 0, (), False, ()),
        ("throws", 1, ("given",), False, ("full", "barred")), ("again", 0, ("given",), False, ("spilt", "shut")),
    ]

    def world(self, **bodies):
        calm = {"top": "call throws give a\ndone", "bare": "make a\ncall throws give a\ndone",
                "throws": "throw full a", "again": "call throws give a\ndone"}
        return world_of(self.HELPERS, {**calm, **bodies}, PAIRS)

    def test_unnamed_where_the_caller_does_not_throw_it(self):
        world = self.world()
        self.assertEqual(world.call("bare"), ("broke", "unnamed", None))
        self.assertEqual(world.broken(), ("unnamed", 1, "bare", 1, None))
        self.assertEqual(world.log()[-3:], [("ended", 2, "full", (0, 0), 0), ("broke", 1, "unnamed"),
                                            ("freed", 1, None, 0)])

    def test_unnamed_ahead_of_kept(self):
        world = self.world(bare="make a\nmake b\ncall throws give a\ndone")
        world.call("bare")
        self.assertEqual(world.broken(), ("unnamed", 1, "bare", 2, None))

    def test_kept_where_a_pocket_of_the_caller_owns(self):
        world = self.world(top="make e\ncall throws give a\ndone")
        self.assertEqual(world.call("top"), ("broke", "kept", None))
        self.assertEqual(world.broken(), ("kept", 1, "top", 1, None))
        self.assertEqual(world.log()[-3:], [("broke", 1, "kept"), ("freed", 1, None, 0), ("freed", 1, (1, 0), 1)])

    def test_a_shelf_that_owns_is_not_kept(self):
        world = self.world(top="make e\nput e\ncall throws give a\ndone")
        self.assertEqual(world.call("top"), ("threw", "spilt", 0))

    def test_a_catch_of_another_word_does_not_help(self):
        world = self.world(bare="make a\ncall throws give a on shut 2\ndone")
        world.call("bare")
        self.assertEqual(world.broken(), ("unnamed", 1, "bare", 1, None))

    def test_the_second_call_that_it_passes(self):
        world = self.world(bare="make a\nmake b\ncall again give a\ndone")
        self.assertEqual(world.call("bare"), ("broke", "unnamed", None))
        self.assertEqual(world.broken(), ("unnamed", 1, "bare", 2, None))
        self.assertEqual(world.log()[-5:], [("ended", 3, "full", (0, 0), 0), ("passed", 2, "spilt"),
                                            ("broke", 1, "unnamed"), ("freed", 1, None, 0), ("freed", 1, (1, 0), 1)])

    def test_a_bare_one(self):
        world = self.world(throws="free a\nthrow barred")
        self.assertEqual(world.call("top"), ("broke", "unnamed", None))
        self.assertEqual(world.log()[-1], ("broke", 1, "unnamed"))
        self.assertEqual(self.world(throws="free a\nthrow barred").call("again"), ("threw", "shut", None))


if __name__ == "__main__":
    unittest.main()
