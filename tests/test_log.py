"""Point 27: the log and the story. What rows write is in test_calls and test_world, too."""

import random
import unittest

from making import world_of
from random_sides import do_deed, random_deed, random_pacts, random_side
from replay import Replay
from pactford.errors import TooLong
from pactford.world import World

HELPERS = [
    ("all", 0, ("lent", "given"), True, ("spilt", "shut")), ("far", 1, ("given", "lent"), True, ("full", "barred")),
]
BODIES = {
    "all": "use a\nmake c\ncall far give b lend c to d on spilt e 6 on shut 7\nfree d\nclear c\ngo 7\nfree e\n"
           "pick 11\nclear c\nmake a\ndone a\ncall far give c lend a to b\ndone b",
    "far": "put b\nclear e\npick 4\ndone a\npick 6\nthrow full a\nfree a\nthrow barred",
}


def without_handles(entry):
    """The forms as the document lists them."""
    forms = {
        "made": lambda call, handle, thing: (call, thing), "used": lambda call, handle, thing: (call, thing),
        "freed": lambda call, handle, thing: (call, thing), "entered": lambda call, name, by: (call, name, by),
        "lent": lambda by, handle, thing, call, new: (by, thing, call),
        "gave": lambda by, handle, thing, call, new: (by, thing, call),
        "ended": lambda call, word, handle, thing: (call, word, thing), "passed": lambda call, word: (call, word),
        "got": lambda call, new, thing: (call, thing), "caught": lambda call, word, new, thing: (call, word, thing),
        "broke": lambda call, reason: (call, reason),
    }
    return (entry[0], *forms[entry[0]](*entry[1:]))


class Forms(unittest.TestCase):
    def test_a_whole_log(self):
        world = world_of(HELPERS, BODIES)
        self.assertEqual(world.call("all", picks=[1, 0, 1, 1, 1]), ("threw", "shut", None))
        world.let_go(0)
        world.close()
        self.assertEqual(world.log(), [
            ("made", 0, None, 0), ("made", 0, None, 1),
            ("entered", 1, "all", 0), ("lent", 0, None, 0, 1, (0, 0)), ("gave", 0, None, 1, 1, (1, 0)),
            ("used", 1, (0, 0), 0), ("made", 1, (2, 0), 2),
            ("entered", 2, "far", 1), ("gave", 1, (1, 0), 1, 2, (0, 0)), ("lent", 1, (2, 0), 2, 2, (1, 0)),
            ("ended", 2, "full", (0, 0), 1), ("caught", 1, "spilt", (1, 1), 1), ("freed", 1, (1, 1), 1),
            ("entered", 3, "far", 1), ("gave", 1, (2, 0), 2, 3, (0, 1)), ("lent", 1, (0, 0), 0, 3, (1, 1)),
            ("freed", 3, (0, 1), 2), ("ended", 3, "barred", None, None), ("passed", 1, "shut"),
            ("caught", 0, "shut", None, None), ("freed", 0, None, 0)])
        self.assertEqual(world.story(), [
            ("made", 0, 0), ("made", 0, 1), ("entered", 1, "all", 0), ("lent", 0, 0, 1), ("gave", 0, 1, 1), ("used", 1, 0),
            ("made", 1, 2), ("entered", 2, "far", 1), ("gave", 1, 1, 2), ("lent", 1, 2, 2), ("ended", 2, "full", 1),
            ("caught", 1, "spilt", 1), ("freed", 1, 1), ("entered", 3, "far", 1), ("gave", 1, 2, 3), ("lent", 1, 0, 3),
            ("freed", 3, 2), ("ended", 3, "barred", None), ("passed", 1, "shut"), ("caught", 0, "shut", None),
            ("freed", 0, 0)])

    def test_the_break_in_the_log_and_the_story(self):
        world = world_of(HELPERS, {**BODIES, "far": "free b\ndone a"})
        world.call("all")
        self.assertEqual(world.log()[-4:], [("broke", 2, "lent"), ("freed", 2, (0, 0), 1), ("freed", 1, (2, 0), 2),
                                            ("freed", 0, None, 0)])
        self.assertEqual(world.story()[-4:], [("broke", 2, "lent"), ("freed", 2, 1), ("freed", 1, 2), ("freed", 0, 0)])

    def test_takes_puts_and_moves_are_not_in_it(self):
        world = world_of([("one", 0, ("lent",), False, ())],
                         {"one": "put a\ntake b\nmove b c\nforget c\npick 5\ngo 6\ndone"})
        world.call("one")
        self.assertEqual([entry[0] for entry in world.log()], ["made", "entered", "lent", "ended"])

    def test_a_done_without_a_thing_brings_nothing(self):
        world = world_of([("one", 0, (), False, ()), ("two", 1, (), False, ())], {"one": "call two\ndone", "two": "done"})
        world.call("one")
        self.assertEqual(world.log(), [("entered", 1, "one", 0), ("entered", 2, "two", 1), ("ended", 2, "", None, None),
                                       ("ended", 1, "", None, None)])


class ManyLogs(unittest.TestCase):
    def test_they_can_be_gone_through(self):
        kinds = set()
        for seed in range(150):
            rng = random.Random(seed)
            pacts = random_pacts(rng)
            world = World(random_side(rng, pacts, 0), random_side(rng, pacts, 1))
            for _ in range(8):
                if not world.closed():
                    try:
                        do_deed(world, random_deed(rng, pacts, world.held()))
                    except TooLong:
                        pass
            with self.subTest(seed):
                replay = Replay(self, pacts, world.log())
                self.assertEqual(world.held(), sorted(replay.outside))
                self.assertEqual(world.story(), [without_handles(entry) for entry in world.log()])
                if world.closed():
                    self.assertEqual(sorted(replay.freed), list(range(replay.made)))
            kinds |= {entry[0] for entry in world.log()}
        self.assertEqual(len(kinds), 11)


if __name__ == "__main__":
    unittest.main()
