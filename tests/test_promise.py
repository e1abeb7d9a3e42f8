"""Points 2 to 4 over the whole program."""

import random
import unittest

from making import harmless, pacts_of, refusal, side_of
from pactford.errors import NoWord, TooLong, Unlet
from pactford.house import House
from pactford.ledger import is_ledger
from pactford.lines import is_lines, lines
from pactford.pacts import Pacts, read_pacts
from pactford.papers import is_paper, paper
from pactford.plain import plain_run
from pactford.roads import linked, partner, road
from pactford.side import Side
from pactford.table import Table
from pactford.world import World
from random_sides import do_deed, random_deed, random_pacts, random_side
from replay import Replay
from shelf_sides import shelf_side

HELPERS = [("near", 0, ("lent", "given"), True, ("spilt",)), ("nest", 0, (), False, ()), ("far", 1, ("given",), False, ("full", "barred"))]
PACTS = pacts_of(HELPERS)
BODIES = {"near": "use a\ndone b", "nest": "() (done)", "far": "pick 2\nthrow full a\nfree a\ndone"}


class Weavings(unittest.TestCase):
    """A side with a paper for the letter of its shelf never breaks; one without has a road."""

    def side(self, rng, pacts, number):
        return shelf_side(rng, pacts, number) if rng.random() < 0.4 else random_side(rng, pacts, number, mended=0.6)

    def test_a_side_with_a_paper_never_breaks(self):
        counts = {"broke": 0, "safe": 0, "swapped": 0}
        for seed in range(11000, 11200):
            rng = random.Random(seed)
            pacts = random_pacts(rng)
            sides = [self.side(rng, pacts, number) for number in (0, 1)]
            world = World(*sides)
            # By side: whether it had a paper for its shelf's letter when it came into the world.
            safe = [paper(side) is not None for side in sides]
            for _ in range(14):
                if world.closed():
                    break
                if rng.random() < 0.2:
                    side = self.side(rng, pacts, rng.randrange(2))
                    letter = world.shelf(side.number())
                    world.swap(side)
                    safe[side.number()] = paper(side, begin=letter) is not None
                    counts["swapped"] += 1
                refused = refusal(do_deed, world, random_deed(rng, pacts, world.held()))
                self.assertIn(refused, (None, (TooLong,)))
                self.assertTrue(is_ledger(pacts, world.log()))
                counts["safe"] += safe.count(True)
            Replay(self, pacts, world.log())
            if world.broken():
                counts["broke"] += 1
                self.assertFalse(safe[pacts.pact(world.broken()[2])[1]])
        self.assertGreater(counts["safe"], 700)
        self.assertGreater(counts["broke"], 50)
        self.assertGreater(counts["swapped"], 100)

    def test_from_within_a_world_of_any_letter(self):
        """A side that comes to a shelf with O or X, and has a paper for that."""
        counts = {"O": 0, "X": 0}
        for seed in range(11200, 11500):
            rng = random.Random(seed)
            pacts = Pacts([("spilt", "full", True)], [("near", 0, ("lent",), False, ()), ("fill", 0, ("given",), False, ()),
                                                      ("far", 1, (), True, ("full",))])
            far = self.side(rng, pacts, 1)
            world = World(Side(pacts, 0, {"near": "put a\ndone", "fill": "put a\ndone"}), far)
            world.call(rng.choice(("near", "fill")))
            side = self.side(rng, pacts, 0)
            letter = world.shelf(0)
            if paper(side, begin=letter) is None:
                continue
            world.swap(side)
            counts[letter] += 1
            for _ in range(8):
                if not world.closed():
                    self.assertIn(refusal(do_deed, world, random_deed(rng, pacts, world.held())), (None, (TooLong,)))
            if world.broken():
                self.assertEqual(world.broken()[2], "far")
            elif not world.closed():
                self.assertIsNotNone(paper(side, begin=world.shelf(0)))
        self.assertGreater(min(counts.values()), 15)

    def test_two_linked_sides_never_break(self):
        counts = {"calls": 0, "linked": 0}
        for seed in range(11500, 11650):
            rng = random.Random(seed)
            pacts = random_pacts(rng)
            sides = [random_side(rng, pacts, number, mended=0.95) for number in (0, 1)]
            if not linked(*sides):
                self.assertTrue(any(lines(side) is not None for side in sides))
                continue
            counts["linked"] += 1
            world = World(*sides)
            for _ in range(12):
                if not world.closed():
                    counts["calls"] += 1
                    self.assertIn(refusal(do_deed, world, random_deed(rng, pacts, world.held())), (None, (TooLong,)))
            self.assertIsNone(world.broken())
            self.assertNotIn("broke", [entry[0] for entry in world.log()])
        self.assertGreater(counts["linked"], 100)
        self.assertGreater(counts["calls"], 900)

    def test_a_side_with_lines_does_break(self):
        broke = 0
        for seed in range(11700, 11900):
            rng = random.Random(seed)
            pacts = random_pacts(rng)
            number = rng.randrange(2)
            side = self.side(rng, pacts, number)
            found = lines(side)
            self.assertEqual(found is None, paper(side) is not None)
            if found is None:
                continue
            both = [side, partner(side)]
            world = World(*both) if number == 0 else World(*both[::-1])
            try:
                calls = road(side, found)
            except TooLong:
                continue
            for name, picks in calls:
                self.assertFalse(world.closed())
                world.call(name, picks=picks)
            _, name, _, row, reason = found[-1][0]
            self.assertEqual((world.broken()[0], *world.broken()[2:4]), (reason, name, side.place(name, row)))
            sides = both if number == 0 else both[::-1]
            deeds = [("call", name, [], picks) for name, picks in calls]
            if refusal(plain_run, *sides, deeds) is None:
                self.assertEqual(plain_run(*sides, deeds), (world.story(), world.broken()))
            broke += 1
        self.assertGreater(broke, 80)

    def test_the_machine_and_the_plain_runner(self):
        same = 0
        for seed in range(11900, 12000):
            rng = random.Random(seed)
            pacts = random_pacts(rng)
            sides = [self.side(rng, pacts, number) for number in (0, 1)]
            world = World(*sides)
            deeds = []
            for _ in range(6):
                deed = random_deed(rng, pacts, world.held())
                if not world.closed() and refusal(do_deed, world, deed) is None:
                    deeds.append(deed)
            if refusal(plain_run, *sides, deeds) is None:
                same += 1
                self.assertEqual(plain_run(*sides, deeds), (world.story(), world.broken()))
        self.assertGreater(same, 80)


class HandedIn(unittest.TestCase):
    """What is handed in stays as it was, and what is changed behind a call changes nothing."""

    def setUp(self):
        self.near = side_of(PACTS, 0, {**BODIES, "nest": "use a\ndone"})

    def unchanged(self, act, *things):
        """Call, and see that what was handed in is as it was; told is what the call tells."""
        ahead = repr(things)
        found = act(*things)
        self.assertEqual(repr(things), ahead)
        return found

    def test_lists_of_pacts(self):
        pairs, helpers = list(PACTS.pairs()), list(HELPERS)
        pacts = self.unchanged(Pacts, pairs, helpers)
        pairs.clear()
        helpers.pop()
        self.assertEqual(pacts, PACTS)
        pacts.pairs().clear()
        pacts.names(0).clear()
        pacts.errors("far", side=0).clear()
        self.assertEqual(pacts, read_pacts(str(PACTS)))
        self.assertEqual(pacts.errors("far", side=0), ["spilt", "shut"])

    def test_bodies(self):
        bodies = {name: BODIES[name] for name in PACTS.names(0)}
        side = self.unchanged(Side, PACTS, 0, bodies)
        again = Side(PACTS, 0, dict(bodies))
        bodies["near"] = "stop"
        bodies["more"] = ""
        self.assertEqual(side, again)
        self.assertEqual(side.body("near"), BODIES["near"])
        more = {"nest": "done"}
        other = self.unchanged(side.changed, more)
        more["nest"] = "stop"
        self.assertEqual(other.body("nest"), "done")
        self.assertEqual(side, again)
        side.rows("near").clear()
        self.assertEqual(side.rows("near"), ["use a", "done b"])

    def test_things_and_picks(self):
        world = World(side_of(PACTS, 0, BODIES), side_of(PACTS, 1, BODIES))
        things, picks = [None, None], [1, 1]
        world.call("near", things, picks=picks)
        world.call("far", picks=picks)
        self.assertEqual((things, picks), ([None, None], [1, 1]))
        things[0] = 7
        picks.clear()
        ahead = (world.log(), world.story(), world.held())
        for tell in (world.log, world.story, world.held, world.sides):
            tell().clear()
        self.assertEqual((world.log(), world.story(), world.held()), ahead)
        deeds = [("call", "near", [None, None], [1]), ("call", "far", [], [0])]
        story, _ = self.unchanged(plain_run, *world.sides(), deeds)
        story.clear()
        self.assertTrue(plain_run(*world.sides(), deeds)[0])

    def test_facts_and_lines(self):
        fine = side_of(PACTS, 0, BODIES)
        facts = paper(fine)
        self.assertTrue(self.unchanged(is_paper, fine, facts))
        facts.clear()
        self.assertTrue(is_paper(fine, paper(fine)))
        found = lines(self.near)
        kept = list(found)
        self.assertTrue(self.unchanged(is_lines, self.near, found))
        calls = self.unchanged(road, self.near, found)
        calls[0][1].append(7)
        calls.clear()
        found.clear()
        self.assertEqual(lines(self.near), kept)
        self.assertEqual(road(self.near, kept), [("nest", [])])

    def test_a_refusal_has_a_list_of_its_own(self):
        found = lines(self.near)
        refused = Unlet(0, found)
        found.clear()
        self.assertEqual(refused.lines, lines(self.near))
        one = House(PACTS, BODIES)
        errors = []
        for _ in range(2):
            try:
                one.put({"nest": "use a\ndone"})
            except Unlet as error:
                errors.append(error)
        errors[0].lines.clear()
        self.assertTrue(is_lines(self.near, errors[1].lines))
        self.assertEqual(refusal(one.put, {"nest": "done"}), None)

    def test_logs(self):
        log = [("entered", 1, "nest", 0), ("ended", 1, "", None, None)]
        self.assertTrue(self.unchanged(is_ledger, PACTS, log))
        table = Table()
        table.begin(1)
        table.alive().clear()
        self.assertEqual(table.alive(), [(0, 0)])

    def test_houses(self):
        bodies = dict(BODIES)
        one = self.unchanged(House, PACTS, bodies)
        bodies.clear()
        more = {"nest": "done", "far": "free a\ndone"}
        self.unchanged(one.put, more)
        more["far"] = "stop"
        things, picks = [None], [1]
        one.call("far", things, picks=picks)
        self.assertEqual((things, picks), ([None], [1]))
        for tell in (one.log, one.story, one.journal, one.held):
            tell().clear()
        self.assertEqual([one.body(name) for name in BODIES], [BODIES["near"], "done", "free a\ndone"])
        self.assertEqual((len(one.journal()), len(one.log())), (4, 5))

    def test_sides_and_pacts_do_not_change(self):
        near, far = side_of(PACTS, 0, BODIES), side_of(PACTS, 1, BODIES)
        world, other = World(near, far), World(near, far)
        ahead = (str(PACTS), near.rows("near"), far.rows("far"))
        world.call("near")
        world.call("far", picks=[1])
        world.swap(self.near)
        world.close()
        self.assertEqual((other.log(), len(other)), ([], 0))
        self.assertEqual((str(PACTS), near.rows("near"), far.rows("far")), ahead)

    def test_errors_cross_and_come_back(self):
        for number in (0, 1):
            for pair in PACTS.pairs():
                word = PACTS.over(pair[number], side=number)
                self.assertEqual(PACTS.over(word, side=1 - number), pair[number])
        self.assertEqual(refusal(PACTS.over, "full", side=0), (NoWord,))
        side = Side(PACTS, 0, {name: harmless(PACTS, name) for name in PACTS.names(0)})
        self.assertTrue(linked(side, partner(side)))


if __name__ == "__main__":
    unittest.main()
