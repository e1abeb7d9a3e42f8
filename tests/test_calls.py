"""Points 11, 13 and 14: what rows do, and which handles come and go at calls, ends and errors."""

import unittest

from making import world_of


def run(helpers, bodies, name, things=(), picks=(), **named):
    world = world_of(helpers, bodies, **named)
    told = world.call(name, things, picks=picks)
    return told, world.log()


class OneCall(unittest.TestCase):
    HELPERS = [("run", 0, (), False, ())]

    def log(self, *rows, picks=()):
        told, log = run(self.HELPERS, {"run": "\n".join([*rows, "done"])}, "run", picks=picks)
        self.assertEqual(told, ("done", "", None))
        self.assertEqual(log[0], ("entered", 1, "run", 0))
        self.assertEqual(log[-1], ("ended", 1, "", None, None))
        return log[1:-1]

    def test_pockets_hold_nothing_at_the_begin(self):
        self.assertEqual(self.log(*[f"forget {pocket}" for pocket in "abcde"]), [])
        world = world_of(self.HELPERS, {"run": "use c\ndone"})
        self.assertEqual(world.call("run"), ("broke", "empty", None))

    def test_make_use_free(self):
        self.assertEqual(self.log("make b", "use b", "free b"),
                         [("made", 1, (0, 0), 0), ("used", 1, (0, 0), 0), ("freed", 1, (0, 0), 0)])

    def test_clear(self):
        self.assertEqual(self.log("clear a", "make a", "clear a", "clear a"),
                         [("made", 1, (0, 0), 0), ("freed", 1, (0, 0), 0)])

    def test_a_pocket_holds_nothing_behind_free(self):
        world = world_of(self.HELPERS, {"run": "make b\nfree b\nfree b\ndone"})
        self.assertEqual(world.call("run"), ("broke", "empty", None))

    def test_a_freed_handle_has_ended(self):
        self.assertEqual(self.log("make a", "free a", "make a", "free a")[2], ("made", 1, (0, 1), 1))

    def test_move_put_take(self):
        self.assertEqual(self.log("make a", "move a e", "put e", "use shelf", "take c", "free c"),
                         [("made", 1, (0, 0), 0), ("used", 1, (0, 0), 0), ("freed", 1, (0, 0), 0)])
        for rows in (("move a b", "use a"), ("put a", "use a"), ("put a", "take b", "use shelf")):
            world = world_of(self.HELPERS, {"run": "\n".join(["make a", *rows, "done"])})
            self.assertEqual(world.call("run"), ("broke", "empty", None))
            self.assertEqual(world.broken()[3], len(rows))

    def test_go(self):
        self.assertEqual(self.log("go 2", "make a", "clear a"), [])

    def test_picks(self):
        rows = ["pick 3", "make a", "free a", "pick 5", "make b", "clear b"]
        made = {(): 2, (0,): 2, (1,): 1, (0, 1): 1, (5, 10 ** 39): 0, (0, 0, 1): 2}
        for picks, count in made.items():
            log = self.log(*rows, picks=list(picks))
            self.assertEqual(len([entry for entry in log if entry[0] == "made"]), count)

    def test_a_pick_may_lead_back_and_to_itself(self):
        self.assertEqual(len(self.log("make a", "free a", "pick 0", picks=[1, 1, 0, 1])), 6)
        self.assertEqual(self.log("pick 0", picks=[1] * 3000), [])


class Begins(unittest.TestCase):
    def test_takes_are_in_the_first_pockets(self):
        helpers = [("run", 1, ("given", "lent", "given"), False, ())]
        told, log = run(helpers, {"run": "use b\nuse c\nuse a\nclear a\nclear c\ndone"}, "run")
        self.assertEqual(told, ("done", "", None))
        self.assertEqual(log[4:7], [("gave", 0, None, 0, 1, (0, 0)), ("lent", 0, None, 1, 1, (1, 0)),
                                    ("gave", 0, None, 2, 1, (2, 0))])
        self.assertEqual([entry[3] for entry in log if entry[0] == "used"], [1, 2, 0])
        self.assertEqual([entry[3] for entry in log if entry[0] == "freed"], [0, 2])


class Borders(unittest.TestCase):
    HELPERS = [
        ("near", 0, (), True, ("spilt", "shut")),
        ("peer", 0, ("given", "lent"), True, ("spilt",)),
        ("far", 1, ("given", "lent"), True, ("full", "barred")),
    ]
    PEER = "make c\nfree a\ndone c"

    def log(self, near, far=PEER, peer=PEER):
        return run(self.HELPERS, {"near": near, "far": far, "peer": peer}, "near")

    def test_a_call_over_the_border(self):
        told, log = self.log("make a\nmake b\ncall far give a lend b to c\nfree b\ndone c")
        self.assertEqual(log, [
            ("entered", 1, "near", 0), ("made", 1, (0, 0), 0), ("made", 1, (1, 0), 1),
            ("entered", 2, "far", 1), ("gave", 1, (0, 0), 0, 2, (0, 0)), ("lent", 1, (1, 0), 1, 2, (1, 0)),
            ("made", 2, (2, 0), 2), ("freed", 2, (0, 0), 0), ("ended", 2, "", (2, 0), 2),
            # Place 0 of the near side was given back by the giving.
            ("got", 1, (0, 1), 2), ("freed", 1, (1, 0), 1), ("ended", 1, "", (0, 1), 2), ("got", 0, None, 2)])
        self.assertEqual(told, ("done", "", 2))

    def test_a_call_on_the_own_side(self):
        told, log = self.log("make a\nmake b\ncall peer give a lend b to c\nfree b\ndone c")
        self.assertEqual(log[3:10], [
            ("entered", 2, "peer", 1),
            # The giver's handle ends ahead of the new one, on the same table.
            ("gave", 1, (0, 0), 0, 2, (0, 1)), ("lent", 1, (1, 0), 1, 2, (2, 0)),
            ("made", 2, (3, 0), 2), ("freed", 2, (0, 1), 0), ("ended", 2, "", (3, 0), 2), ("got", 1, (0, 2), 2)])
        self.assertEqual(told, ("done", "", 2))

    def test_the_handle_of_the_end_ends_ahead_of_the_lent_ones(self):
        # Both are free behind the end, so the least place comes next.
        _, log = self.log("make a\nmake b\ncall peer give a lend b to c\nmake d\nfree b\nfree d\ndone c",
                          peer="done a")
        self.assertEqual(log[6:9], [("ended", 2, "", (0, 1), 0), ("got", 1, (0, 2), 0), ("made", 1, (2, 1), 2)])

    def test_what_the_pocket_of_to_held_is_forgotten(self):
        helpers = [("run", 0, ("lent",), True, ()), ("brings", 1, (), True, ())]
        told, log = run(helpers, {"run": "call brings to a\ndone a", "brings": "make a\ndone a"}, "run")
        self.assertEqual(log[-3:], [("got", 1, (1, 0), 1), ("ended", 1, "", (1, 0), 1), ("got", 0, None, 1)])

    def test_a_caught_error_over_the_border(self):
        told, log = self.log("make a\nmake b\ncall far give a lend b to e on shut 0 on spilt c 3\nfree b\ndone c",
                             far="throw full a")
        self.assertEqual(log[4:], [
            ("gave", 1, (0, 0), 0, 2, (0, 0)), ("lent", 1, (1, 0), 1, 2, (1, 0)),
            ("ended", 2, "full", (0, 0), 0), ("caught", 1, "spilt", (0, 1), 0), ("freed", 1, (1, 0), 1),
            ("ended", 1, "", (0, 1), 0), ("got", 0, None, 0)])
        self.assertEqual(told, ("done", "", 0))

    def test_a_caught_error_leads_to_its_row(self):
        told, log = self.log("make a\nmake b\ncall far give a lend b to e on shut 5\nuse a\nuse a\nuse b\ndone b",
                             far="free a\nthrow barred")
        self.assertEqual(told, ("done", "", 1))
        self.assertEqual(log[7:9], [("ended", 2, "barred", None, None), ("caught", 1, "shut", None, None)])

    def test_what_the_pocket_of_a_catch_held_is_forgotten(self):
        helpers = [("run", 0, ("lent",), True, ()), ("fails", 1, (), False, ("full",))]
        told, log = run(helpers, {"run": "call fails on spilt a 1\ndone a", "fails": "make a\nthrow full a"}, "run")
        self.assertEqual(told, ("done", "", 1))
        self.assertEqual(log[-4:-2], [("ended", 2, "full", (0, 0), 1), ("caught", 1, "spilt", (1, 0), 1)])

    def test_an_error_of_the_own_side_keeps_its_word(self):
        _, log = self.log("make a\nmake b\ncall peer give a lend b to e on spilt c 3\nfree b\ndone c",
                          peer="throw spilt a")
        self.assertIn(("caught", 1, "spilt", (0, 2), 0), log)

    def test_an_error_that_passes(self):
        told, log = self.log("make a\nmake b\nput b\ncall far give a lend shelf to e\ndone c", far="throw full a")
        self.assertEqual(told, ("threw", "spilt", 0))
        self.assertEqual(log[-3:], [("ended", 2, "full", (0, 0), 0), ("passed", 1, "spilt"),
                                    ("caught", 0, "spilt", None, 0)])
        told, log = self.log("make a\nmake b\nput b\ncall far give a lend shelf to e\ndone c", far="free a\nthrow barred")
        self.assertEqual(told, ("threw", "shut", None))
        self.assertEqual(log[-3:], [("ended", 2, "barred", None, None), ("passed", 1, "shut"),
                                    ("caught", 0, "shut", None, None)])

    def test_an_error_that_goes_over_the_border_and_back(self):
        helpers = [("one", 0, (), False, ("spilt",)), ("two", 1, (), False, ("full",)), ("three", 0, (), False, ("spilt",))]
        told, log = run(helpers, {"one": "call two\ndone", "two": "call three\ndone", "three": "make a\nthrow spilt a"},
                        "one")
        self.assertEqual(told, ("threw", "spilt", 0))
        self.assertEqual(log[4:], [("ended", 3, "spilt", (0, 0), 0), ("passed", 2, "full"), ("passed", 1, "spilt"),
                                   ("caught", 0, "spilt", None, 0)])

    def test_words_that_cross(self):
        # The far word of one pair is the near word of the other.
        pairs = [("ash", "elm", False), ("elm", "ash", True)]
        helpers = [("one", 0, (), False, ("ash", "elm")), ("two", 1, (), False, ("ash", "elm"))]
        for two, told in (("throw elm", ("threw", "ash", None)), ("make a\nthrow ash a", ("threw", "elm", 0))):
            self.assertEqual(run(helpers, {"one": "call two\ndone", "two": two}, "one", pairs=pairs)[0], told)
        caught = "call two on ash 2 on elm c 4\ndone\nthrow elm c\ndone\nfree c\nmake a\nthrow elm a"
        self.assertEqual(run(helpers, {"one": caught, "two": "make a\nthrow ash a"}, "one", pairs=pairs)[0],
                         ("threw", "elm", 1))


class LentHandles(unittest.TestCase):
    HELPERS = [
        ("near", 0, (), False, ("shut",)), ("look", 0, (), False, ()),
        ("far", 1, ("lent",), False, ("barred",)), ("inner", 1, ("lent",), False, ("barred",)),
        ("call", 1, (), False, ()),
    ]

    def world(self, **bodies):
        calm = {"near": "make a\ncall far lend a\nfree a\ndone", "look": "done", "far": "done", "inner": "done",
                "call": "done"}
        return world_of(self.HELPERS, {**calm, **bodies})

    def test_it_ends_with_its_call_wherever_it_lies(self):
        world = self.world(far="put a\ndone", call="use shelf\ndone")
        world.call("near")
        self.assertEqual(world.shelf(1), "X")
        world.call("call")
        self.assertEqual(world.broken(), ("stale", 3, "call", 0, (1, 1)))

    def test_however_the_call_ends(self):
        world = self.world(near="make a\ncall far lend a on shut 2\nfree a\ndone", far="put a\nthrow barred",
                           call="use shelf\ndone")
        world.call("near")
        world.call("call")
        self.assertEqual(world.broken(), ("stale", 3, "call", 0, (1, 1)))
        world = self.world(near="make a\ncall far lend a on shut 2\nfree a\ndone", far="put a\nclear a\ncall inner lend shelf\ndone",
                           inner="throw barred", call="use shelf\ndone")
        world.call("near")
        world.call("call")
        self.assertEqual(world.broken(), ("stale", 4, "call", 0, (1, 1)))

    def test_it_is_lent_on(self):
        world = self.world(far="call inner lend a\nuse a\ndone", inner="use a\ndone")
        world.call("near")
        self.assertEqual(world.log()[3:8], [
            ("lent", 1, (0, 0), 0, 2, (0, 0)), ("entered", 3, "inner", 2), ("lent", 2, (0, 0), 0, 3, (1, 0)),
            ("used", 3, (1, 0), 0), ("ended", 3, "", None, None)])

    def test_one_that_is_lent_on_ends_alone(self):
        world = self.world(far="call inner lend a\nuse a\nuse shelf\ndone", inner="put a\ndone")
        world.call("near")
        self.assertEqual(world.broken(), ("stale", 2, "far", 2, (2, 0)))

    def test_what_is_lent_stays_with_its_owner(self):
        world = self.world()
        self.assertEqual(world.call("near"), ("done", "", None))
        self.assertEqual(world.log()[-2], ("freed", 1, (0, 0), 0))

    def test_a_thing_lent_twice_has_two_handles(self):
        helpers = [("near", 0, (), False, ()), ("far", 1, ("lent", "lent"), False, ())]
        world = world_of(helpers, {"near": "make a\ncall far lend a lend a\nfree a\ndone",
                                   "far": "use a\nuse b\nput a\nuse b\ndone"})
        world.call("near")
        self.assertEqual([entry for entry in world.log() if entry[0] == "used"],
                         [("used", 2, (0, 0), 0), ("used", 2, (1, 0), 0), ("used", 2, (1, 0), 0)])
        self.assertEqual(world.shelf(1), "X")


class Depth(unittest.TestCase):
    def test_a_helper_may_call_itself(self):
        helpers = [("near", 0, ("lent",), False, ())]
        told, log = run(helpers, {"near": "pick 2\ndone\ncall near lend a\nuse a\ndone"}, "near", picks=[1, 1, 0])
        self.assertEqual(told, ("done", "", None))
        self.assertEqual([entry[1] for entry in log if entry[0] == "entered"], [1, 2, 3])
        self.assertEqual([entry[1:3] for entry in log if entry[0] == "used"], [(2, (1, 0)), (1, (0, 0))])

    def test_two_hundred_calls_within_one_another(self):
        helpers = [("near", 0, ("lent",), False, ("shut",)), ("far", 1, ("lent",), False, ("barred",))]
        bodies = {"near": "pick 2\nthrow shut\ncall far lend a\nuse a\ndone",
                  "far": "pick 2\nthrow barred\ncall near lend a\nuse a\ndone"}
        told, log = run(helpers, bodies, "near", picks=[1] * 199)
        self.assertEqual(told, ("threw", "shut", None))
        self.assertEqual(len([entry for entry in log if entry[0] == "passed"]), 199)
        bodies = {"near": bodies["near"].replace("throw shut", "done"), "far": bodies["far"].replace("throw barred", "done")}
        told, log = run(helpers, bodies, "near", picks=[1] * 199)
        self.assertEqual(told, ("done", "", None))
        self.assertEqual(len([entry for entry in log if entry[0] == "used"]), 199)


if __name__ == "__main__":
    unittest.main()
