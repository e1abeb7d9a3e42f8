"""Point 28: the plain runner."""

import random
import unittest
from unittest import mock

from making import harmless, pacts_of, refusal, side_of, world_of
from pactford.errors import Closed, NoHelper, NoSide, NoThing, TooDeep, TooLong
from pactford.plain import plain_run
from pactford.side import Side
from pactford.table import Table
from pactford.world import World
from random_sides import do_deed, random_deed, random_pacts, random_side

HELPERS = [
    ("deep", 0, (), False, ("shut",)), ("deeper", 1, (), False, ("barred",)),
    ("keep", 0, ("given",), False, ()), ("hold", 1, ("lent",), True, ("full",)),
]
BODIES = {
    "deep": "pick 2\ndone\ncall deeper\npick 2\ndone", "deeper": "() (pick ((call deep ())) ()) (done)",
    "keep": "put a\ndone", "hold": "put a\nmake a\npick 4\ndone a\nthrow full a",
}


def sides(bodies=()):
    pacts = pacts_of(HELPERS)
    bodies = {**BODIES, **dict(bodies)}
    return side_of(pacts, 0, bodies), side_of(pacts, 1, bodies)


def run(deeds, bodies=()):
    return plain_run(*sides(bodies), deeds)


class Deeds(unittest.TestCase):
    def test_none(self):
        self.assertEqual(run([]), ([], None))

    def test_each_kind(self):
        deeds = [("call", "hold", [], [1]), ("call", "keep", [0], []), ("call", "hold", (), ()), ("free", 1), ("close",)]
        world = World(*sides())
        for deed in deeds:
            do_deed(world, deed)
        self.assertEqual(run(deeds), (world.story(), None))
        self.assertEqual(run(deeds)[0], [
            ("made", 0, 0), ("entered", 1, "hold", 0), ("lent", 0, 0, 1), ("made", 1, 1), ("ended", 1, "full", 1),
            ("caught", 0, "full", 1), ("entered", 2, "keep", 0), ("gave", 0, 0, 2), ("ended", 2, "", None),
            ("made", 0, 2), ("entered", 3, "hold", 0), ("lent", 0, 2, 3), ("made", 3, 3), ("ended", 3, "", 3), ("got", 0, 3),
            ("freed", 0, 1), ("freed", 0, 0), ("freed", 0, 2), ("freed", 0, 3)])

    def test_a_break(self):
        story, broken = run([("call", "keep", [], []), ("call", "hold", [], []), ("call", "keep", [], [])])
        self.assertEqual(broken, ("full", 3, "keep", 0, None))
        self.assertEqual(story[-5:], [("broke", 3, "full"), ("freed", 3, 3), ("freed", 0, 0), ("freed", 0, 1), ("freed", 0, 2)])

    def test_by_names_and_what_is_handed_in(self):
        near, far = sides()
        deeds = [("call", "hold", [None], [1])]
        story, broken = plain_run(deeds=deeds, far=far, near=near)
        self.assertEqual(deeds, [("call", "hold", [None], [1])])
        ahead = list(story)
        deeds.append(("close",))
        deeds[0][2].append(None)
        self.assertEqual((story, broken), (ahead, None))
        story.clear()
        self.assertEqual(plain_run(near, far, [("call", "hold", [], [1])])[0], ahead)


class Refused(unittest.TestCase):
    def told(self, deeds, bodies=()):
        return refusal(run, deeds, bodies)

    def test_no_side(self):
        near, far = sides()
        other = side_of(pacts_of(HELPERS[::-1]), 1, BODIES)
        for pair, at in (((far, near), 0), ((far, far), 0), ((near, near), 1), ((near, other), 1)):
            self.assertEqual(refusal(plain_run, *pair, []), (NoSide, at))
            self.assertEqual(refusal(plain_run, *pair, [("call", "nobody", [], [])]), (NoSide, at))

    def test_as_the_world_refuses(self):
        call = ("call", "keep", [], [])
        self.assertEqual(self.told([call, ("call", "nobody", [7], [])]), (NoHelper, "nobody"))
        self.assertEqual(self.told([("call", "keep", [None, None], [])]), (NoThing, 2))
        self.assertEqual(self.told([("call", "hold", [], []), ("call", "hold", [3], [])]), (NoThing, 0))
        self.assertEqual(self.told([("free", 3)]), (NoThing, 3))
        self.assertEqual(self.told([("call", "hold", [], []), ("free", 0), ("free", 0)]), (NoThing, 0))
        self.assertEqual(self.told([call, ("free", 0)]), (NoThing, 0))
        self.assertIsNone(self.told([("call", "hold", [], []), ("call", "hold", [0], []), ("call", "keep", [0], [])]))

    def test_closed(self):
        for close in ([("close",)], [("call", "keep", [], []), ("call", "keep", [], [])]):
            self.assertIsNone(self.told(close))
            for deed in (("close",), ("free", 0), ("free", 99), ("call", "keep", [], []), ("call", "nobody", [9], [])):
                self.assertEqual(self.told([*close, deed]), (Closed,))

    def test_of_two_the_first_one(self):
        self.assertEqual(self.told([("free", 3), ("call", "nobody", [], [])]), (NoThing, 3))
        self.assertEqual(self.told([("call", "nobody", [], []), ("free", 3)]), (NoHelper, "nobody"))
        self.assertEqual(self.told([("call", "deep", [], [1] * 20), ("free", 3)]), (TooDeep,))

    def test_too_deep(self):
        # deep and deeper call one another by turns, one call deeper with each pick.
        self.assertIsNone(self.told([("call", "deep", [], [1] * 11)]))
        self.assertEqual(self.told([("call", "deep", [], [1] * 12)]), (TooDeep,))
        self.assertIsNone(self.told([("call", "deeper", [], [1] * 11)]))
        self.assertEqual(self.told([("call", "deeper", [], [1] * 12)]), (TooDeep,))

    def test_a_break_comes_ahead_of_too_deep(self):
        bodies = {"deep": "pick 2\ndone\npick 4\nuse a\ncall deeper\ndone", "deeper": "pick 2\ndone\ncall deep\ndone"}
        # At the twelfth call deeper would call, so its look is the last one.
        near, far = sides({**bodies, "deeper": "pick 2\ndone\ncall hold lend a to b\ndone"})
        self.assertEqual(plain_run(near, far, [("call", "deeper", [], [1])])[1], ("empty", 1, "deeper", 2, None))
        near, far = sides({"deep": "pick 2\ndone\ncall deeper\ndone", "deeper":
                           "pick 2\ndone\npick 5\ncall deep\ndone\ncall hold lend a to b\ndone"})
        picks = [1, 1, 0] * 5 + [1, 1, 1]
        self.assertEqual(plain_run(near, far, [("call", "deep", [], picks)])[1], ("empty", 12, "deeper", 5, None))
        self.assertEqual(refusal(plain_run, near, far, [("call", "deep", [], [1, 1, 0] * 6)]), (TooDeep,))

    def test_too_long(self):
        # One call that calls over and over: 199 of them are right.
        bodies = {"deep": "pick 2\ndone\ncall deeper\npick 2\ndone"}
        right = [1] + [0, 1] * 198 + [0, 0]
        self.assertIsNone(self.told([("call", "deep", [], right)], bodies))
        self.assertEqual(len([entry for entry in run([("call", "deep", [], right)], bodies)[0] if entry[0] == "entered"]), 200)
        self.assertEqual(self.told([("call", "deep", [], [1] + [0, 1] * 199 + [0, 0])], bodies), (TooLong,))
        self.assertIsNone(self.told([("call", "deep", [], right)] * 2, bodies))

    def test_too_long_comes_ahead_of_too_deep(self):
        # 188 calls behind one another, then one within another: the 200th call is the twelfth that is open.
        bodies = {"deep": "pick 2\ndone\ncall deeper\npick 2\ndone", "deeper": "pick 2\ndone\ncall deeper\ndone"}
        ahead = [1] + [0, 1] * 188
        self.assertIsNone(self.told([("call", "deep", [], ahead + [1] * 10 + [0, 0])], bodies))
        self.assertEqual(self.told([("call", "deep", [], ahead + [1] * 11 + [0, 0])], bodies), (TooLong,))
        self.assertEqual(self.told([("call", "deep", [], [1] + [0, 1] * 187 + [1] * 11 + [0, 0])], bodies), (TooDeep,))


class TheSameAsAWorld(unittest.TestCase):
    def test_lenders(self):
        helpers = [("one", 0, (), False, ()), ("two", 1, ("lent",), False, ()), ("three", 1, (), False, ()),
                   ("four", 0, (), False, ())]
        calm = {"one": "make a\nput a\ncall two lend shelf\ndone", "two": "put a\ncall three\ndone", "three": "done",
                "four": "done"}
        for bodies in ({"three": "take a\nfree a\ndone"}, {"three": "call four\ndone", "four": "take a\ndone"},
                       {"two": "put a\ndone", "one": "make a\ncall two lend a\nfree a\ncall three\ndone",
                        "three": "use shelf\ndone"},
                       {"two": "call three\nuse shelf\ndone"}, {"two": "put a\nuse b\ndone"},
                       {"two": "(x) (make y) (pick () ((pick () ((free x))))) (done)"},
                       {"one": "() (make x) (put x) (pick () ()) (call two (shelf)) (done)",
                        "two": "(x) (call three ()) (done)", "three": "() (call four ()) (done)",
                        "four": "() (use shelf) (make y) (take x) (done)"}):
            world = world_of(helpers, {**calm, **bodies})
            pacts = pacts_of(helpers)
            world.call("one")
            self.assertEqual(plain_run(side_of(pacts, 0, {**calm, **bodies}), side_of(pacts, 1, {**calm, **bodies}),
                                       [("call", "one", [], [])]), (world.story(), world.broken()))
            self.assertTrue(world.closed())

    def test_many(self):
        counts = {"same": 0, "broke": 0, "deep": 0, "refused": 0}
        for seed in range(1000, 1250):
            rng = random.Random(seed)
            pacts = random_pacts(rng)
            near, far = random_side(rng, pacts, 0), random_side(rng, pacts, 1)
            world = World(near, far)
            deeds = []
            for _ in range(8):
                deed = random_deed(rng, pacts, world.held())
                if world.closed():
                    break
                if refusal(do_deed, world, deed) is None:
                    deeds.append(deed)
                else:
                    # Only calls that are too long are refused here.
                    counts["refused"] += 1
                    self.assertIn(refusal(plain_run, near, far, [*deeds, deed]), [(TooLong,), (TooDeep,)])
            with self.subTest(seed):
                if refusal(plain_run, near, far, deeds) is not None:
                    self.assertEqual(refusal(plain_run, near, far, deeds), (TooDeep,))
                    counts["deep"] += 1
                    continue
                self.assertEqual(plain_run(near, far, deeds), (world.story(), world.broken()))
                counts["same"] += 1
                counts["broke"] += 1 if world.broken() else 0
        self.assertGreater(counts["same"], 200)
        self.assertGreater(counts["broke"], 50)
        self.assertGreater(counts["refused"], 50)

    def test_without_tables_and_without_turned_rows(self):
        near, far = sides({"deep": "() (pick ((call deeper ()) (make x) (call hold (x) to x)) ()) (done)",
                           "hold": "(x) (use x) (put x) (make x) (done x)"})
        deeds = [("call", "deep", [], [1, 1, 1]), ("call", "keep", [], []), ("close",)]
        right = plain_run(near, far, deeds)
        self.assertGreater(len(right[0]), 10)
        for side, names in ((near, ("deep",)), (far, ("deeper", "hold"))):
            for name in names:
                side.parsed(name).steps = None
        with mock.patch.object(Table, "begin", side_effect=AssertionError):
            self.assertEqual(plain_run(near, far, deeds), right)

    def test_one_side_in_rows_and_one_said(self):
        pacts = pacts_of(HELPERS)
        bodies = {name: harmless(pacts, name) for name in pacts.names(0)}
        near = Side(pacts, 0, bodies)
        said = {"deeper": "() (done)", "hold": "(x) (make y) (done y)"}
        story, broken = plain_run(near, Side(pacts, 1, said), [("call", "hold", [], []), ("call", "deep", [], [])])
        self.assertIsNone(broken)
        self.assertEqual(len([entry for entry in story if entry[0] == "ended"]), 2)


if __name__ == "__main__":
    unittest.main()
