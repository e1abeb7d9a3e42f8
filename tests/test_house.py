"""Points 37 to 39: houses."""

import random
import unittest

from making import harmless, pacts_of, refusal, side_of
from pactford.errors import Closed, NoBody, NoHelper, NoSide, NothingDone, NoThing, TooLong, Unlet
from pactford.house import House
from pactford.ledger import is_ledger
from pactford.lines import is_lines, lines
from pactford.pacts import Pacts
from pactford.papers import paper
from pactford.side import Side
from pactford.world import World
from random_sides import random_pacts, random_picks, random_side, random_things
from shelf_sides import shelf_side

HELPERS = [
    ("keep", 0, ("given",), False, ()),
    ("show", 0, (), False, ("shut",)),
    ("hold", 1, ("lent",), False, ()),
    ("make", 1, (), True, ("full",)),
]
PACTS = pacts_of(HELPERS)
BODIES = {
    "keep": "free a\ndone",
    "show": "pick 2\ndone\nthrow shut",
    "hold": "use a\ndone",
    "make": "make a\npick 3\ndone a\nthrow full a",
}
# A dead handle is left on the shelf; something owned comes to it in the place of what is there.
LEAVES = {"hold": "put a\ndone"}
RENEWS = {"hold": "take b\nclear b\nmake b\nput b\ndone"}


def house(**bodies):
    return House(PACTS, {**BODIES, **bodies})


def told(one):
    """All that a house tells, but for its journal."""
    return (one.held(), one.shelf(0), one.shelf(1), one.closed(), one.log(), one.story(), len(one),
            [one.body(name) for name in BODIES])


def unlet(act, *things, **named):
    """The refusal of a call as (side, lines)."""
    try:
        act(*things, **named)
    except Unlet as error:
        return (error.side, error.lines)
    return None


def words(one):
    """The words of the deeds in the journal, whose marks must go in couples."""
    journal = one.journal()
    assert journal[::2] == [("begin", word) for _, word in journal[::2]]
    assert journal[1::2] == [("end", word) for _, word in journal[::2]]
    return [word for _, word in journal[::2]]


class Made(unittest.TestCase):
    def test_at_first(self):
        one = house()
        self.assertEqual(told(one), ([], "E", "E", False, [], [], 0, list(BODIES.values())))
        self.assertEqual(one.journal(), [])
        self.assertEqual(told(House(bodies=BODIES, pacts=PACTS)), told(one))

    def test_without_helpers(self):
        for pacts in (Pacts([], []), pacts_of(HELPERS[:2]), pacts_of(HELPERS[2:])):
            one = House(pacts, {name: BODIES[name] for name in pacts.names(0) + pacts.names(1)})
            self.assertEqual(len(one), 0)
            self.assertEqual(refusal(House, pacts, BODIES)[0], NoHelper)

    def test_names(self):
        for bodies, name in (
                ({}, "keep"), ({"show": BODIES["show"]}, "keep"), ({"keep": BODIES["keep"]}, "show"),
                ({name: BODIES[name] for name in ("keep", "show")}, "hold"),
                ({name: BODIES[name] for name in ("keep", "show", "hold")}, "make"),
                ({**BODIES, "nobody": "done"}, "nobody"), ({**BODIES, "zz": "stop", "aa": "stop"}, "aa"), ({**BODIES, "": ""}, ""),
                # What is no helper's is of side 0, so it comes ahead of what side 1 lacks.
                ({"keep": "", "show": "", "zz": ""}, "zz"), ({"keep": "", "zz": ""}, "show"), ({"keep": "", "aa": ""}, "aa")):
            with self.subTest(bodies):
                self.assertEqual(refusal(House, PACTS, bodies), (NoHelper, name))

    def test_order(self):
        bad = {"keep": "use a\nstop", "show": "(", "hold": "stop", "make": ""}
        # A strange name of side 0, then a body of side 0, then all of side 1, then what has no paper.
        self.assertEqual(refusal(House, PACTS, {**bad, "zz": ""}), (NoHelper, "zz"))
        self.assertEqual(refusal(House, PACTS, bad), (NoBody, "keep", 1))
        self.assertEqual(refusal(House, PACTS, {**bad, "keep": BODIES["keep"]}), (NoBody, "show", -1))
        self.assertEqual(refusal(House, PACTS, {"keep": "stop", "show": "done", "hold": "done"}), (NoBody, "keep", 0))
        fine = {**bad, "keep": "use shelf\ndone", "show": "done"}
        self.assertEqual(refusal(House, PACTS, {name: fine[name] for name in ("keep", "show", "make")}), (NoHelper, "hold"))
        self.assertEqual(refusal(House, PACTS, fine), (NoBody, "hold", 0))
        self.assertEqual(refusal(House, PACTS, {**fine, "hold": "use shelf\ndone"}), (NoBody, "make", 0))
        self.assertEqual(unlet(House, PACTS, {**fine, "hold": "use shelf\ndone", "make": "make a\ndone a"})[0], 0)

    def test_unlet(self):
        for bodies, side in (({"keep": "done"}, 0), ({"hold": "use shelf\ndone"}, 1), ({"make": "throw full a"}, 1),
                             ({"keep": "done", "hold": "use shelf\ndone"}, 0)):
            found = unlet(House, PACTS, {**BODIES, **bodies})
            self.assertEqual(found[0], side)
            self.assertTrue(is_lines(side_of(PACTS, side, {**BODIES, **bodies}), found[1]))
        found = unlet(House, PACTS, {**BODIES, "keep": "done", "hold": "use shelf\ndone"})
        found[1].clear()
        self.assertTrue(unlet(House, PACTS, {**BODIES, "keep": "done", "hold": "use shelf\ndone"})[1])

    def test_two_houses_have_nothing_in_common(self):
        one, other = house(), house()
        one.call("make")
        one.put({"keep": "clear a\ndone"})
        self.assertEqual(told(other), told(house()))
        self.assertEqual(other.journal(), [])
        self.assertEqual(other.call("make"), ("done", "", 0))

    def test_bodies_changed_behind_it(self):
        bodies = dict(BODIES)
        one = House(PACTS, bodies)
        bodies["keep"] = "done"
        del bodies["show"]
        self.assertEqual(bodies, {**{name: BODIES[name] for name in ("hold", "make")}, "keep": "done"})
        self.assertEqual(told(one), told(house()))
        more = {"keep": "clear a\ndone"}
        one.put(more)
        self.assertEqual(more, {"keep": "clear a\ndone"})
        more["keep"] = "done"
        self.assertEqual(one.body("keep"), "clear a\ndone")


class Puts(unittest.TestCase):
    def test_one_some_none_and_the_old_ones(self):
        for bodies in ({"keep": "clear a\ndone"}, {"show": "() (done)", "hold": "done"}, {}, dict(BODIES),
                       {"make": BODIES["make"]}, {name: harmless(PACTS, name) for name in BODIES}):
            one = house()
            self.assertIsNone(one.put(bodies))
            self.assertEqual([one.body(name) for name in BODIES], [{**BODIES, **bodies}[name] for name in BODIES])
            self.assertEqual((len(one), words(one), one.log()), (1, ["put"], []))
            one.back()
            self.assertEqual(told(one), told(house()))
        one = house()
        one.put(bodies={"keep": "clear a\ndone"})
        self.assertEqual(one.body(name="keep"), "clear a\ndone")

    def test_new_bodies_run(self):
        one = house()
        self.assertEqual(one.call("show"), ("done", "", None))
        one.put({"show": "throw shut"})
        self.assertEqual(one.call("show"), ("threw", "shut", None))
        one.back()
        one.back()
        self.assertEqual(one.call("show"), ("done", "", None))

    def test_shelves_and_things_stay(self):
        one = house(**LEAVES)
        one.call("hold")
        one.call("make")
        ahead = told(one)
        self.assertEqual((one.shelf(1), one.held()), ("X", [0, 1]))
        one.put({"show": "throw shut"})
        self.assertEqual(told(one)[:6], ahead[:6])
        one.back()
        self.assertEqual(told(one), ahead)

    def test_closed(self):
        one = house()
        one.close()
        for bodies in ({}, {"keep": "done"}, {"nobody": ""}, {"keep": "stop"}, BODIES):
            self.assertEqual(refusal(one.put, bodies), (Closed,))
        one.back()
        self.assertIsNone(refusal(one.put, {}))

    def test_refusals_in_their_order(self):
        one = house()
        bad = {"keep": "stop", "show": "done", "hold": "stop", "make": "throw full a"}
        ahead = told(one)
        for bodies, refused in (
                ({**bad, "zz": "", "nobody": ""}, (NoHelper, "nobody")), ({"zz": "done", "keep": "done"}, (NoHelper, "zz")),
                (bad, (NoBody, "keep", 0)), ({**bad, "keep": "done"}, (NoBody, "hold", 0)), ({**bad, "keep": "done", "hold": "use a"}, (NoBody, "hold", 0)),
                ({"show": "stop", "keep": "use a\nuse"}, (NoBody, "keep", 1)), ({"show": "()"}, (NoBody, "show", 0)),
                ({"make": "done", "hold": "done\nstop"}, (NoBody, "hold", 1))):
            self.assertEqual(refusal(one.put, bodies), refused)
            self.assertEqual(told(one), ahead)
        for bodies, side in (({"keep": "done", "hold": "use shelf\ndone"}, 0), ({"hold": "use shelf\ndone"}, 1),
                             ({"keep": "clear a\ndone", "hold": "use shelf\ndone"}, 1), ({"keep": "done", "make": "make a\ndone a"}, 0)):
            found = unlet(one.put, bodies)
            self.assertEqual(found[0], side)
            self.assertTrue(is_lines(side_of(PACTS, side, {**BODIES, **bodies}), found[1]))
            self.assertEqual(told(one), ahead)

    def test_unlet_for_the_letter_of_the_shelf(self):
        look = {"make": "use shelf\nmake a\ndone a"}
        one = house(**LEAVES)
        side = side_of(PACTS, 1, {**BODIES, **LEAVES, **look})
        found = unlet(one.put, look)
        self.assertEqual(found[0], 1)
        self.assertTrue(is_lines(side, found[1]))
        one.call("hold")
        self.assertEqual(one.shelf(1), "X")
        found = unlet(one.put, look)
        self.assertTrue(is_lines(side, found[1], begin="X"))
        self.assertFalse(is_lines(side, found[1]))
        self.assertEqual(found[1][-1][0][4], "stale")

    def test_a_side_that_is_let_in_for_its_shelf_alone(self):
        one = house(**LEAVES)
        look = {"make": "use shelf\nmake a\ndone a"}
        self.assertEqual(unlet(one.put, RENEWS)[0], 1)
        one.call("hold")
        one.put(RENEWS)
        self.assertIsNone(paper(side_of(PACTS, 1, {**BODIES, **RENEWS})))
        one.call("hold")
        self.assertEqual(one.shelf(1), "O")
        one.put(look)
        self.assertEqual(one.call("make"), ("done", "", 3))
        # To come back there it must stay as it is.
        found = unlet(one.put, LEAVES)
        self.assertTrue(is_lines(side_of(PACTS, 1, {**BODIES, **LEAVES, **look}), found[1], begin="O"))
        self.assertEqual(found[1][-1][0][4], "full")
        one.put({**LEAVES, **RENEWS, **look})
        one.close()
        self.assertEqual([entry[1:] for entry in one.log() if entry[0] == "freed"][:1], [(0, (1, 0), 2)])
        for _ in range(4):
            one.back()
        self.assertEqual((one.shelf(1), one.body("make"), one.body("hold")), ("O", BODIES["make"], RENEWS["hold"]))
        one.back()
        self.assertEqual((one.shelf(1), one.body("hold")), ("X", RENEWS["hold"]))
        one.back()
        self.assertEqual((one.shelf(1), one.body("hold")), ("X", LEAVES["hold"]))

    def test_both_sides_at_once(self):
        pacts = pacts_of([("near", 0, (), True, ("spilt",)), ("nest", 0, (), False, ()), ("far", 1, (), True, ("full",)),
                          ("fort", 1, (), False, ())])
        plain = {"near": "make a\ndone a", "nest": "call near to a on spilt a 1\nfree a\ndone",
                 "far": "make a\ndone a", "fort": "call far to a on full a 1\nfree a\ndone"}
        one = House(pacts, {**plain, "nest": "done", "fort": "done"})
        # A nest that keeps what far throws goes alone; its fellows do not matter to it.
        new = {"near": "call far to a on spilt a 2\ndone a\nthrow spilt a", "nest": "call far to a on spilt a 1\nfree a\ndone",
               "far": "call near to a on full a 2\ndone a\nthrow full a", "fort": "call near to a on full a 1\nfree a\ndone"}
        one.put(new)
        self.assertEqual([one.body(name) for name in plain], [new[name] for name in plain])
        self.assertEqual((len(one), words(one)), (1, ["put"]))
        # They call one another without an end.
        self.assertEqual(refusal(one.call, "near"), (TooLong,))
        one.back()
        self.assertEqual(([one.body(name) for name in plain], len(one)), ([plain["near"], "done", plain["far"], "done"], 0))
        self.assertEqual(one.call("nest"), ("done", "", None))
        # Where one of them has no paper, none is put.
        for bad, side in ((("nest", "make a\ndone"), 0), (("fort", "make a\ndone"), 1)):
            self.assertEqual(unlet(one.put, {**new, bad[0]: bad[1]})[0], side)
            self.assertEqual(one.body("near"), plain["near"])

    def test_two_bodies_of_a_side_that_go_only_at_once(self):
        pacts = pacts_of([("open", 0, (), False, ("shut",)), ("walk", 0, (), False, ())])
        one = House(pacts, {"open": "done", "walk": "call open on shut 1\ndone"})
        # By the pact open may throw, but of the own side its very body is looked at.
        one.put({"walk": "call open\ndone"})
        self.assertEqual(unlet(one.put, {"open": "throw shut"})[0], 0)
        one.put({"open": "throw shut", "walk": "call open on shut 1\ndone"})
        self.assertEqual(unlet(one.put, {"walk": "call open\ndone"})[0], 0)
        one.put({"walk": "call open\ndone", "open": "done"})
        self.assertEqual(one.call("walk"), ("done", "", None))

    def test_of_both_sides_two_each_that_go_only_at_once(self):
        pacts = pacts_of([("open", 0, (), False, ("shut",)), ("walk", 0, (), False, ()), ("enter", 1, (), False, ("barred",)),
                          ("leave", 1, (), False, ())])
        calm = {"open": "done", "walk": "call open\ndone", "enter": "done", "leave": "call enter\ndone"}
        wild = {"open": "throw shut", "walk": "call open on shut 1\ndone", "enter": "throw barred",
                "leave": "call enter on barred 1\ndone"}
        one = House(pacts, calm)
        for names, side in ((("open",), 0), (("enter",), 1), (("open", "enter"), 0), (("open", "enter", "leave"), 0),
                            (("open", "walk", "enter"), 1)):
            self.assertEqual(unlet(one.put, {name: wild[name] for name in names})[0], side)
        one.put(wild)
        self.assertEqual([one.call(name)[0] for name in wild], ["threw", "done", "threw", "done"])
        for _ in range(5):
            one.back()
        self.assertEqual([one.body(name) for name in calm], list(calm.values()))
        self.assertEqual([one.call(name)[0] for name in wild], ["done", "done", "done", "done"])


class Deeds(unittest.TestCase):
    def test_as_the_worlds(self):
        one = house(**LEAVES)
        bodies = {**BODIES, **LEAVES}
        world = World(side_of(PACTS, 0, bodies), side_of(PACTS, 1, bodies))
        for word, *things in (
                ("call", "make"), ("call", "make", [], [1]), ("call", "keep", [0]), ("call", "keep", [0]), ("call", "hold", [1]),
                ("call", "hold", [1, 1]), ("call", "nobody"), ("let_go", 7), ("let_go", 1), ("let_go", 1), ("call", "show", (), [1]),
                ("call", "show", (), [0]), ("back",), ("call", "make", (), (), 1), ("shelf", 0), ("shelf", 1), ("shelf", 2), ("close",),
                ("call", "make"), ("let_go", 2), ("close",), ("back",), ("call", "hold", [None]), ("back",), ("back",)):
            if word == "call":
                name, handed, picks, most = (things + [(), (), 200][len(things) - 1:])[:4]
                found = [self.outcome(each.call, name, handed, picks=picks, most=most) for each in (one, world)]
            else:
                found = [self.outcome(getattr(each, word), *things) for each in (one, world)]
            self.assertEqual(found[0], found[1])
            self.check(one, world)

    def outcome(self, act, *things, **named):
        refused = refusal(act, *things, **named)
        return refused if refused else "done"

    def check(self, one, world):
        self.assertEqual(told(one)[:7], (world.held(), world.shelf(0), world.shelf(1), world.closed(), world.log(), world.story(),
                                         len(world)))

    def test_outcomes(self):
        one = house()
        self.assertEqual(one.call("make"), ("done", "", 0))
        self.assertEqual(one.call("make", picks=[1]), ("threw", "full", 1))
        self.assertEqual(one.call("hold", things=[0], picks=[], most=1), ("done", "", None))
        self.assertEqual(one.call("show", [], picks=[1]), ("threw", "shut", None))
        self.assertEqual(one.held(), [0, 1])
        self.assertIsNone(one.let_go(thing=0))
        self.assertEqual(one.held(), [1])
        self.assertIsNone(one.close())
        self.assertEqual((one.held(), one.closed(), len(one)), ([], True, 6))
        self.assertIsNone(one.back())
        self.assertEqual((one.held(), one.closed(), len(one)), ([1], False, 5))

    def test_refusals(self):
        one = house()
        ahead = told(one)
        for act, things, refused in ((one.back, (), (NothingDone,)), (one.let_go, (0,), (NoThing, 0)), (one.call, ("nobody",), (NoHelper, "nobody")),
                                     (one.call, ("keep", [0]), (NoThing, 0)), (one.call, ("keep", [None, None]), (NoThing, 2)),
                                     (one.shelf, (2,), (NoSide, 2)), (one.shelf, (-1,), (NoSide, -1)), (one.body, ("nobody",), (NoHelper, "nobody")),
                                     (one.body, ("",), (NoHelper, ""))):
            self.assertEqual(refusal(act, *things), refused)
            self.assertEqual(told(one), ahead)
        one.close()
        for act, things in ((one.close, ()), (one.let_go, (0,)), (one.call, ("nobody",)), (one.call, ("make",))):
            self.assertEqual(refusal(act, *things), (Closed,))
        self.assertEqual(len(one), 1)

    def test_too_long(self):
        one = house(show="call show on shut 1\ndone")
        ahead = told(one)
        self.assertEqual(refusal(one.call, "show"), (TooLong,))
        self.assertEqual(refusal(one.call, "show", most=3), (TooLong,))
        self.assertEqual(told(one), ahead)
        self.assertEqual(words(one), ["call", "call"])

    def test_told_lists_are_the_askers_own(self):
        one = house()
        one.call("make")
        ahead = (told(one), one.journal())
        for tell in (one.held, one.log, one.story, one.journal):
            tell().append(7)
            tell().clear()
        self.assertEqual((told(one), one.journal()), ahead)


class Journal(unittest.TestCase):
    def test_each_word(self):
        one = house()
        deeds = ((one.put, ({},), "put"), (one.call, ("make",), "call"), (one.let_go, (0,), "free"), (one.close, (), "close"),
                 (one.back, (), "back"))
        for at, (act, things, word) in enumerate(deeds):
            act(*things)
            self.assertEqual(one.journal()[2 * at:], [("begin", word), ("end", word)])
        self.assertEqual(len(one.journal()), 10)

    def test_refused_deeds(self):
        one = house()
        for act, things, word in ((one.put, ({"nobody": ""},), "put"), (one.put, ({"keep": "stop"},), "put"), (one.put, ({"keep": "done"},), "put"),
                                  (one.call, ("nobody",), "call"), (one.call, ("keep", [0]), "call"), (one.let_go, (0,), "free"),
                                  (one.back, (), "back"), (one.close, (), "close"), (one.put, ({},), "put"), (one.call, ("make",), "call"),
                                  (one.let_go, (0,), "free"), (one.close, (), "close"), (one.back, (), "back"), (one.back, (), "back")):
            ahead = one.journal()
            refusal(act, *things)
            self.assertEqual(one.journal(), [*ahead, ("begin", word), ("end", word)])
        self.assertEqual(words(one), ["put", "put", "put", "call", "call", "free", "back", "close", "put", "call", "free", "close", "back", "back"])
        self.assertEqual(len(one), 0)

    def test_back_leaves_it(self):
        one = house()
        one.call("make")
        one.put({})
        for _ in range(3):
            refusal(one.back)
        self.assertEqual(words(one), ["call", "put", "back", "back", "back"])

    def test_questions_are_no_deeds(self):
        one = house()
        one.call("make")
        for ask in (one.held, one.closed, one.log, one.story, one.journal, one.__len__, lambda: one.shelf(0), lambda: one.body("keep"),
                    lambda: refusal(one.shelf, 2), lambda: refusal(one.body, "nobody")):
            ask()
        self.assertEqual(one.journal(), [("begin", "call"), ("end", "call")])


class Many(unittest.TestCase):
    def test_a_house_never_breaks(self):
        counts = {"houses": 0, "calls": 0, "unlet": 0, "put": 0, "long": 0}
        for seed in range(9000, 9150):
            rng = random.Random(seed)
            pacts = random_pacts(rng)
            sides = [random_side(rng, pacts, number, mended=1) for number in (0, 1)]
            bodies = {name: side.body(name) for side in sides for name in pacts.names(side.number())}
            one = House(pacts, bodies)
            world = World(*sides)
            self.assertEqual(refusal(self.walk, rng, pacts, one, world, counts), None)
            counts["houses"] += 1
        self.assertGreater(counts["calls"], 700)
        self.assertGreater(min(counts["unlet"], counts["put"], counts["long"]), 20)

    def walk(self, rng, pacts, one, world, counts):
        """Deeds of a house, held against a world in which its sides are put in place."""
        deeds = 0
        for _ in range(14):
            luck = rng.random()
            if luck < 0.3:
                deeds += self.put(rng, pacts, one, counts)
                continue
            if luck < 0.4 and one.held():
                one.let_go(rng.choice(one.held()))
                deeds += 1
            elif luck < 0.5 and deeds:
                one.back()
                deeds -= 1
            else:
                name = rng.choice(pacts.names(0) + pacts.names(1))
                things = random_things(rng, pacts.pact(name)[2], one.held())
                refused = refusal(one.call, name, things, picks=random_picks(rng))
                self.assertIn(refused, (None, (TooLong,)))
                counts["calls"] += 1
                counts["long"] += refused is not None
                deeds += refused is None
            self.assertFalse(one.closed())
            self.assertEqual(len(one), deeds)
            self.assertNotIn("broke", [entry[0] for entry in one.log()])
            self.assertTrue(is_ledger(pacts, one.log()))
            for number in (0, 1):
                side = Side(pacts, number, {name: one.body(name) for name in pacts.names(number)})
                self.assertIsNotNone(paper(side, begin=one.shelf(number)))
        words(one)

    def put(self, rng, pacts, one, counts):
        """Put some bodies of other sides; told is how many deeds it makes."""
        others = [shelf_side(rng, pacts, number) if rng.random() < 0.5 else random_side(rng, pacts, number, mended=1)
                  for number in (0, 1)]
        bodies = {name: others[number].body(name) for number in (0, 1) for name in pacts.names(number) if rng.random() < 0.5}
        now = [Side(pacts, number, {name: bodies.get(name, one.body(name)) for name in pacts.names(number)}) for number in (0, 1)]
        wrong = [number for number in (0, 1) if paper(now[number], begin=one.shelf(number)) is None]
        ahead = told_of(one, pacts)
        found = unlet(one.put, bodies)
        if found is None:
            self.assertEqual(wrong, [])
            counts["put"] += 1
            return 1
        counts["unlet"] += 1
        self.assertEqual(found[0], wrong[0])
        self.assertTrue(is_lines(now[wrong[0]], found[1], begin=one.shelf(wrong[0])))
        self.assertIsNotNone(lines(now[wrong[0]], begin=one.shelf(wrong[0])))
        self.assertEqual(told_of(one, pacts), ahead)
        return 0


def told_of(one, pacts):
    return (one.held(), one.shelf(0), one.shelf(1), one.closed(), one.log(), len(one),
            [one.body(name) for name in pacts.names(0) + pacts.names(1)])


if __name__ == "__main__":
    unittest.main()
