"""Points 22 to 26: worlds, calls from the outside, closing, letting go, back and doubles."""

import unittest

from making import PAIRS, pacts_of, refusal, side_of, told, world_of
from pactford.errors import Closed, NoHelper, NoSide, NothingDone, NoThing, TooLong
from pactford.pacts import Pacts
from pactford.side import Side
from pactford.world import CALLS, World

HELPERS = [
    ("lend", 0, ("lent", "given", "lent"), False, ()),
    ("give", 1, ("given", "given"), True, ("full", "barred")),
    ("none", 0, (), False, ("shut",)),
    ("keep", 0, ("given",), False, ()),
    ("hold", 1, ("lent",), False, ()),
    ("make", 1, (), True, ("full",)),
]
BODIES = {
    "lend": "use a\nfree b\nuse c\ndone",
    "give": "pick 3\nfree a\ndone b\npick 7\nfree b\nthrow full a\ndone b\nfree a\nfree b\nthrow barred",
    "none": "pick 2\ndone\nthrow shut",
    "keep": "put a\ndone",
    "hold": "put a\ndone",
    "make": "make a\npick 3\ndone a\nthrow full a",
}


def world():
    return world_of(HELPERS, BODIES)


class Made(unittest.TestCase):
    def test_at_first(self):
        self.assertEqual(told(world()), ([], "E", "E", False, None, [], [], 0))

    def test_no_side(self):
        pacts = pacts_of(HELPERS)
        near, far = side_of(pacts, 0, BODIES), side_of(pacts, 1, BODIES)
        other = pacts_of(HELPERS, [("spilt", "full", True), ("shut", "barred", False), ("more", "more", False)])
        for sides, at in (((far, far), 0), ((far, near), 0), ((near, near), 1), ((near, side_of(other, 1, BODIES)), 1),
                          ((side_of(other, 0, BODIES), far), 1), ((far, side_of(other, 0, BODIES)), 0),
                          ((near, side_of(other, 0, BODIES)), 1)):
            self.assertEqual(refusal(World, *sides), (NoSide, at))
        self.assertIsNone(refusal(World, far=far, near=near))
        self.assertIsNone(refusal(World, near, side_of(pacts_of(HELPERS), 1, BODIES)))

    def test_two_worlds_have_nothing_in_common(self):
        pacts = pacts_of(HELPERS)
        near, far = side_of(pacts, 0, BODIES), side_of(pacts, 1, BODIES)
        one, other = World(near, far), World(near, far)
        one.call("keep")
        one.call("make")
        self.assertEqual(told(other), told(world()))
        self.assertEqual(other.call("make"), ("done", "", 0))


class Outcomes(unittest.TestCase):
    def test_done(self):
        one = world()
        self.assertEqual(one.call("none"), ("done", "", None))
        self.assertEqual(one.call("make"), ("done", "", 0))
        self.assertEqual(one.held(), [0])

    def test_threw(self):
        one = world()
        self.assertEqual(one.call("make", picks=[1]), ("threw", "full", 0))
        self.assertEqual(one.held(), [0])
        self.assertEqual(one.call("none", picks=[1]), ("threw", "shut", None))
        self.assertEqual(one.call("give", picks=[1, 1]), ("threw", "barred", None))
        self.assertEqual(one.held(), [0])

    def test_broke(self):
        one = world_of(HELPERS, {**BODIES, "none": "use a\ndone"})
        self.assertEqual(one.call("none"), ("broke", "empty", None))
        self.assertEqual(one.broken(), ("empty", 1, "none", 0, None))

    def test_by_names(self):
        one = world()
        self.assertEqual(one.call(name="make", things=[], picks=[1], most=1), ("threw", "full", 0))
        self.assertEqual(one.call("make", [], picks=(), most=200), ("done", "", 1))
        one.let_go(thing=0)
        self.assertEqual(one.shelf(number=0), "E")
        one.swap(side=side_of(pacts_of(HELPERS), 0, BODIES))

    def test_calls_are_200(self):
        self.assertEqual(CALLS, 200)


class Things(unittest.TestCase):
    def test_fresh_ones(self):
        for things in ((), [], [None, None, None]):
            one = world()
            one.call("lend", things)
            self.assertEqual(one.held(), [0, 2])
            self.assertEqual(one.log()[:4], [("made", 0, None, 0), ("made", 0, None, 1), ("made", 0, None, 2),
                                             ("entered", 1, "lend", 0)])
            one.call("lend")
            self.assertEqual(one.held(), [0, 2, 3, 5])

    def test_held_ones(self):
        one = world()
        one.call("lend")
        self.assertEqual(one.call("lend", [2, 0, 2]), ("done", "", None))
        self.assertEqual(one.held(), [2])
        self.assertEqual([entry for entry in one.log() if entry[0] == "made"][3:], [])
        one.call("lend", [None, 2, None])
        self.assertEqual(one.held(), [3, 4])

    def test_what_is_handed_in_stays_as_it_was(self):
        one = world()
        things, picks = [None, None], [1, 1]
        one.call("give", things, picks=picks)
        self.assertEqual((things, picks), ([None, None], [1, 1]))
        before = told(one)
        things.append(7)
        picks.append(7)
        self.assertEqual(told(one), before)

    def test_no_thing_by_the_count(self):
        one = world()
        one.call("make")
        before = told(one)
        for name, things, at in (("lend", [None], 1), ("lend", [0], 1), ("lend", [None] * 4, 4), ("none", [None], 1),
                                 ("none", [5, 6], 2), ("give", [0, 0, 0], 3), ("lend", [9, 9], 2)):
            self.assertEqual(refusal(one.call, name, things), (NoThing, at))
            self.assertEqual(told(one), before)

    def test_no_thing_by_the_entry(self):
        one = world()
        one.call("lend")
        before = told(one)
        self.assertEqual(one.held(), [0, 2])
        for name, things, at in (
                ("lend", [None, None, 1], 2), ("lend", [3, None, None], 0), ("lend", [0, 4, 4], 1),
                ("lend", [-1, None, None], 0), ("lend", [0, 0, 0], 1), ("lend", [0, 0, None], 1), ("lend", [0, 2, 2], 2),
                ("lend", [None, 0, 0], 2), ("give", [0, 0], 1), ("give", [2, 2], 1), ("give", [None, 1], 1),
                ("give", [5, 5], 0), ("lend", [10 ** 39, 0, 0], 0), ("lend", [True, None, None], 0),
                ("lend", ["0", None, None], 0)):
            with self.subTest(name, things=things):
                self.assertEqual(refusal(one.call, name, things), (NoThing, at))
                self.assertEqual(told(one), before)
        self.assertIsNone(refusal(one.call, "lend", [0, None, 0]))
        self.assertEqual(one.call("give", [2, 0]), ("done", "", 0))

    def test_a_truth_is_no_thing(self):
        one = world()
        one.call("make")
        one.call("make")
        self.assertEqual(refusal(one.call, "lend", [True, None, None]), (NoThing, 0))
        self.assertEqual(refusal(one.call, "lend", [0, False, None]), (NoThing, 1))
        self.assertEqual(refusal(one.let_go, True), (NoThing, True))
        self.assertEqual(one.held(), [0, 1])

    def test_a_thing_that_is_freed_or_given_is_held_no_more(self):
        one = world()
        one.call("lend")
        one.let_go(0)
        self.assertEqual(refusal(one.call, "lend", [0, None, None]), (NoThing, 0))
        one.call("keep", [2])
        self.assertEqual(refusal(one.call, "lend", [2, None, None]), (NoThing, 0))

    def test_the_order_of_the_refusals(self):
        one = world()
        self.assertEqual(refusal(one.call, "nobody", [9, 9]), (NoHelper, "nobody"))
        self.assertEqual(refusal(one.call, "", most=1), (NoHelper, ""))
        one.close()
        self.assertEqual(refusal(one.call, "nobody", [9, 9]), (Closed,))
        self.assertEqual(refusal(one.call, "lend", [9]), (Closed,))


class Picks(unittest.TestCase):
    def test_whichever_call_picks_next(self):
        helpers = [("near", 0, (), False, ()), ("far", 1, (), False, ())]
        one = world_of(helpers, {"near": "pick 3\nmake a\nfree a\ncall far\npick 7\nmake a\nfree a\ndone",
                                 "far": "pick 3\nmake b\nfree b\npick 6\nmake c\nfree c\ndone"})
        def makers(picks):
            one.call("near", picks=picks)
            last = max([at for at, entry in enumerate(one.log()) if entry[0] == "entered" and entry[2] == "near"])
            return "".join([str(entry[1] % 2) for entry in one.log()[last:] if entry[0] == "made"])
        # Calls of near have odd numbers, those of far even ones.
        self.assertEqual(makers([]), "1001")
        self.assertEqual(makers([1]), "001")
        self.assertEqual(makers([0, 1]), "101")
        self.assertEqual(makers([0, 1, 1]), "11")
        self.assertEqual(makers([1, 0, 1, 1]), "0")
        self.assertEqual(makers([1, 1, 1, 1, 1, 1]), "")
        # Picks that are left over are forgotten.
        self.assertEqual(makers([]), "1001")


class Most(unittest.TestCase):
    HELPERS = [("near", 0, ("given",), True, ("spilt",)), ("far", 1, (), False, ())]
    BODIES = {"near": "pick 2\ndone a\nmake b\nput b\nfree a\nmake c\nuse c\ncall near give c to d\ntake b\nfree b\ndone d",
              "far": "pick 2\ndone\ncall far\ngo 4\ncall far\npick 2\ndone"}

    def test_one_call(self):
        one = world_of(self.HELPERS, self.BODIES)
        self.assertEqual(one.call("near", most=1), ("done", "", 0))
        self.assertEqual(refusal(one.call, "near", picks=[1], most=1), (TooLong,))
        self.assertEqual(one.call("near", picks=[1], most=2), ("done", "", 3))

    def test_all_is_as_ahead(self):
        one, other = world_of(self.HELPERS, self.BODIES), world_of(self.HELPERS, self.BODIES)
        for world_ in (one, other):
            world_.call("near", picks=[1])
        before = told(one)
        self.assertEqual(refusal(one.call, "near", [2], picks=[1], most=1), (TooLong,))
        self.assertEqual(refusal(one.call, "near", picks=[1, 1], most=1), (TooLong,))
        self.assertEqual(told(one), before)
        for picks in ([], [1], [1, 0]):
            self.assertEqual(one.call("near", picks=picks), other.call("near", picks=picks))
        self.assertEqual(told(one), told(other))

    def test_two_hundred_and_one_more(self):
        chain = {**self.BODIES, "far": "pick 2\ndone\ncall far\ndone"}
        one = world_of(self.HELPERS, chain)
        self.assertEqual(one.call("far", picks=[1] * 199), ("done", "", None))
        before = told(one)
        self.assertEqual(refusal(one.call, "far", picks=[1] * 200), (TooLong,))
        self.assertEqual(refusal(one.call, "far", picks=[1] * 200, most=200), (TooLong,))
        self.assertEqual(told(one), before)
        self.assertEqual(one.call("far", picks=[1] * 198, most=199), ("done", "", None))
        self.assertEqual(refusal(one.call, "far", picks=[1] * 199, most=199), (TooLong,))

    def test_calls_behind_one_another_count_too(self):
        one = world_of(self.HELPERS, {**self.BODIES, "far": "pick 2\ndone\ncall far\npick 2\ndone"})
        # Each far that it calls takes a pick, and calls none.
        self.assertEqual(one.call("far", picks=[1] + [0, 1] * 198 + [0, 0], most=200), ("done", "", None))
        self.assertEqual(len([entry for entry in one.log() if entry[0] == "entered"]), 200)
        self.assertEqual(refusal(one.call, "far", picks=[1] + [0, 1] * 199 + [0, 0], most=200), (TooLong,))

    def test_a_break_comes_ahead(self):
        one = world_of(self.HELPERS, {**self.BODIES, "near": "clear a\ncall near give a to b\ndone b"})
        self.assertEqual(one.call("near", most=1), ("broke", "empty", None))


class Closing(unittest.TestCase):
    HELPERS = [
        ("one", 0, ("lent", "given"), False, ("spilt",)), ("two", 1, ("given",), False, ("full",)),
        ("three", 0, (), False, ("spilt",)), ("keep", 0, ("given",), False, ()), ("store", 1, ("given",), False, ()),
    ]
    BODIES = {
        "one": "make e\nmake d\nuse b\ncall two give b\ndone",
        "two": "make c\ncall three\ndone",
        "three": "make b\nuse c\ndone",
        "keep": "put a\ndone", "store": "put a\ndone",
    }

    def broken(self, **bodies):
        world_ = world_of(self.HELPERS, {**self.BODIES, **bodies})
        world_.call("keep")
        world_.call("store")
        self.assertEqual((world_.shelf(0), world_.shelf(1)), ("O", "O"))
        world_.call("one")
        log = world_.log()
        return world_, log[[entry[0] for entry in log].index("broke"):]

    def test_the_order_of_letting_go(self):
        # Things: 0 and 1 on the shelves; 2 lent and 3 given to one; 4 and 5 in e and d of one, 6 in two, 7 in three.
        world_, log = self.broken()
        self.assertEqual(log, [
            ("broke", 5, "empty"), ("freed", 5, (2, 1), 7), ("freed", 4, (1, 0), 3), ("freed", 4, (2, 0), 6),
            ("freed", 3, (4, 0), 5), ("freed", 3, (3, 0), 4), ("freed", 0, (0, 0), 0), ("freed", 0, (0, 0), 1),
            ("freed", 0, None, 2)])
        self.assertEqual(world_.broken(), ("empty", 5, "three", 1, None))
        self.assertEqual((world_.held(), world_.shelf(0), world_.shelf(1), world_.closed()), ([], "E", "E", True))

    def test_what_the_error_bears_is_first(self):
        world_, log = self.broken(two="make c\nmake d\ncall three\ndone",
                                  three="make b\nmake c\nclear b\nthrow spilt c")
        self.assertEqual([entry[:2] + entry[3:] for entry in log[1:]],
                         [("freed", 4, 9), ("freed", 4, 3), ("freed", 4, 6), ("freed", 4, 7), ("freed", 3, 5), ("freed", 3, 4),
                          ("freed", 0, 0), ("freed", 0, 1), ("freed", 0, 2)])
        self.assertEqual(log[0], ("broke", 4, "kept"))
        self.assertIsNone(log[1][2])

    def test_dead_handles_stay_on_the_shelf(self):
        world_ = world_of([("one", 0, ("lent",), False, ()), ("two", 0, (), False, ())],
                          {"one": "put a\ncall two\ndone", "two": "use a\ndone"})
        world_.call("one")
        self.assertEqual((world_.shelf(0), world_.shelf(1), world_.held()), ("X", "E", []))
        self.assertEqual(world_.broken(), ("empty", 2, "two", 0, None))

    def test_lent_ones_are_not_let_go_of(self):
        world_ = world_of([("one", 0, ("lent", "lent"), False, ())], {"one": "make c\nfree a\ndone"})
        world_.call("one")
        self.assertEqual(world_.log()[-4:], [("broke", 1, "lent"), ("freed", 1, (2, 0), 2), ("freed", 0, None, 0),
                                             ("freed", 0, None, 1)])
        self.assertEqual(world_.broken(), ("lent", 1, "one", 1, (0, 0)))

    def test_close(self):
        world_ = world_of(self.HELPERS, {**self.BODIES, "one": "free b\nput a\ndone"})
        world_.call("store")
        world_.call("one")
        world_.call("one")
        self.assertEqual((world_.shelf(0), world_.shelf(1), world_.held()), ("X", "O", [1, 3]))
        ahead = len(world_.log())
        world_.close()
        self.assertEqual(world_.log()[ahead:], [("freed", 0, (0, 0), 0), ("freed", 0, None, 1), ("freed", 0, None, 3)])
        self.assertEqual(told(world_)[:5], ([], "X", "E", True, None))
        self.assertEqual(len(world_), 4)

    def test_close_lets_go_of_shelf_0_ahead_of_shelf_1(self):
        world_ = world_of(self.HELPERS, self.BODIES)
        world_.call("store")
        world_.call("keep")
        world_.close()
        self.assertEqual(world_.log()[-2:], [("freed", 0, (0, 0), 1), ("freed", 0, (0, 0), 0)])

    def test_close_of_an_empty_world(self):
        world_ = world()
        world_.close()
        self.assertEqual(told(world_), ([], "E", "E", True, None, [], [], 1))

    def test_each_thing_is_let_go_of_just_once(self):
        world_, _ = self.broken()
        freed = [entry[3] for entry in world_.log() if entry[0] == "freed"]
        self.assertEqual(sorted(freed), list(range(8)))

    def test_what_is_asked_behind_it(self):
        for close in (lambda one: one.close(), lambda one: one.call("lend", most=200)):
            one = world_of(HELPERS, {**BODIES, "lend": "use d\ndone"})
            one.call("make")
            close(one)
            before = told(one)
            self.assertTrue(one.closed())
            side = side_of(pacts_of(HELPERS), 0, BODIES)
            other = side_of(pacts_of([]), 0, {})
            for act, things in ((one.call, ("make",)), (one.call, ("nobody",)), (one.let_go, (0,)), (one.let_go, (77,)),
                                (one.close, ()), (one.swap, (side,)), (one.swap, (other,))):
                self.assertEqual(refusal(act, *things), (Closed,))
                self.assertEqual(told(one), before)
            self.assertEqual(refusal(one.shelf, 2), (NoSide, 2))
            self.assertEqual(one.shelf(0), "E")
            one.back()
            self.assertFalse(one.closed())
            self.assertIsNone(one.broken())
            self.assertEqual(one.held(), [0])


class LettingGoAndSwap(unittest.TestCase):
    def test_let_go(self):
        one = world()
        one.call("lend")
        self.assertIsNone(one.let_go(2))
        self.assertEqual(one.held(), [0])
        self.assertEqual(one.log()[-1], ("freed", 0, None, 2))
        self.assertEqual(one.story()[-1], ("freed", 0, 2))
        for thing in (2, 1, 3, -1, 10 ** 39, True, None):
            before = told(one)
            self.assertEqual(refusal(one.let_go, thing), (NoThing, thing))
            self.assertEqual(told(one), before)
        one.let_go(0)
        self.assertEqual((one.held(), len(one)), ([], 3))

    def test_held_is_rising(self):
        one = world()
        for _ in range(12):
            one.call("make")
        one.call("give", [11, 3])
        one.let_go(10)
        self.assertEqual(one.held(), [0, 1, 2, 3, 4, 5, 6, 7, 8, 9])

    def test_swap(self):
        one = world()
        one.call("keep")
        one.call("hold")
        pacts = pacts_of(HELPERS)
        self.assertIsNone(one.swap(side_of(pacts, 0, {**BODIES, "none": "use shelf\ntake a\nfree a\nthrow shut"})))
        self.assertEqual((one.shelf(0), one.shelf(1), one.held(), len(one)), ("O", "X", [1], 3))
        self.assertEqual(one.call("none"), ("threw", "shut", None))
        self.assertEqual(one.log()[-4:-2], [("used", 3, (0, 0), 0), ("freed", 3, (0, 0), 0)])
        one.swap(side_of(pacts, 1, {**BODIES, "hold": "use shelf\ndone"}))
        self.assertEqual(one.call("hold"), ("broke", "stale", None))
        self.assertEqual(one.broken(), ("stale", 4, "hold", 0, (0, 0)))

    def test_no_side(self):
        one = world()
        before = told(one)
        other = Pacts(PAIRS, HELPERS[:-1])
        for number in (0, 1):
            side = side_of(other, number, BODIES)
            self.assertEqual(refusal(one.swap, side), (NoSide, number))
            self.assertEqual(told(one), before)
        self.assertEqual(one.call("make"), ("done", "", 0))

    def test_no_side_of_a_shelf(self):
        for number in (2, -1, 10 ** 39, True):
            self.assertEqual(refusal(world().shelf, number), (NoSide, number))

    def test_places_by_the_bodies_of_their_time(self):
        helpers = [("lends", 0, (), False, ()), ("stores", 1, ("lent",), False, ()), ("looks", 1, (), False, ())]
        bodies = {"lends": "make a\nuse a\nuse a\ncall stores lend a\nfree a\ndone", "stores": "put a\ndone",
                  "looks": "use shelf\ndone"}
        one = world_of(helpers, bodies)
        one.call("lends")
        pacts = pacts_of(helpers)
        one.swap(side_of(pacts, 0, {"lends": "() (done)"}))
        one.swap(side_of(pacts, 1, {"stores": "(x) (done)", "looks": "() (make y) (pick () ()) (use shelf) (done)"}))
        one.call("looks")
        self.assertEqual(one.broken(), ("stale", 3, "looks", 2, (1, 3)))


class Back(unittest.TestCase):
    def steps(self):
        """Deeds of each kind, one after the other, from a new world."""
        pacts = pacts_of(HELPERS)
        return [
            lambda one: one.call("make"), lambda one: one.call("lend"), lambda one: one.call("make", picks=[1]),
            lambda one: one.let_go(1), lambda one: one.call("keep", [0]), lambda one: one.call("hold", [3]),
            lambda one: one.swap(side_of(pacts, 0, {**BODIES, "none": "take a\nput a\nthrow shut"})),
            lambda one: one.call("none"), lambda one: one.call("give", [4, None]),
            lambda one: one.swap(side_of(pacts, 1, {**BODIES, "make": "use shelf\nmake a\ndone a"})),
        ]

    def test_each_deed(self):
        one = world()
        marks = []
        for step in self.steps():
            marks.append(told(one))
            step(one)
        self.assertEqual(len(one), 10)
        for last in (lambda: one.call("make"), one.close):
            before = told(one)
            last()
            self.assertTrue(one.closed())
            self.assertIsNone(one.back())
            self.assertEqual(told(one), before)
        for mark in reversed(marks):
            one.back()
            self.assertEqual(told(one), mark)
        self.assertEqual(refusal(one.back), (NothingDone,))
        self.assertEqual(told(one), told(world()))

    def test_it_goes_on_as_if_nothing_had_been(self):
        steps = self.steps()
        for count in range(1, len(steps)):
            one, other = world(), world()
            for step in steps[:count]:
                step(one)
                step(other)
            for step in steps[count:]:
                step(one)
            for _ in steps[count:]:
                one.back()
            self.assertEqual(told(one), told(other))
            for step in steps[count:]:
                step(one)
                step(other)
                self.assertEqual(told(one), told(other))
            self.assertEqual(one.call("make"), other.call("make"))
            self.assertEqual(one.broken(), other.broken())
            self.assertEqual(one.broken()[0], "stale")

    def test_back_of_a_swap_brings_the_old_bodies(self):
        one = world()
        one.swap(side_of(pacts_of(HELPERS), 0, {**BODIES, "none": "throw shut"}))
        self.assertEqual(one.call("none"), ("threw", "shut", None))
        one.back()
        self.assertEqual(one.call("none"), ("threw", "shut", None))
        one.back()
        one.back()
        self.assertEqual(one.call("none"), ("done", "", None))
        self.assertEqual(one, one.double())

    def test_refused_deeds_do_not_stand(self):
        one = world()
        one.call("make")
        for act, things in ((one.call, ("nobody",)), (one.call, ("lend", [7])), (one.let_go, (7,)),
                            (one.swap, (side_of(pacts_of([]), 0, {}),))):
            self.assertIsNotNone(refusal(act, *things))
        self.assertEqual(len(one), 1)
        one.back()
        self.assertEqual((len(one), one.held()), (0, []))

    def test_nothing_done_in_a_new_world(self):
        self.assertEqual(refusal(world().back), (NothingDone,))


class Doubles(unittest.TestCase):
    def test_it_stands_just_so_and_goes_on_by_itself(self):
        one = world()
        one.call("lend")
        one.call("keep", [0])
        double = one.double()
        self.assertEqual(told(double), told(one))
        self.assertEqual(double, one)
        before = told(one)
        double.call("hold")
        double.let_go(2)
        double.swap(side_of(pacts_of(HELPERS), 1, {**BODIES, "make": "use a\nmake a\ndone a"}))
        double.call("make")
        self.assertEqual(told(one), before)
        self.assertNotEqual(double, one)
        self.assertEqual(one.call("make"), ("done", "", 3))
        for _ in range(4):
            double.back()
        self.assertEqual(told(double), before)
        self.assertEqual(double.call("make"), ("done", "", 3))
        self.assertEqual(told(double), told(one))

    def test_the_same_deeds_to_take_back(self):
        one = world()
        for step in Back().steps():
            step(one)
        double = one.double()
        for _ in range(10):
            one.back()
            self.assertNotEqual(len(one), len(double))
        one.call("hold")
        one.call("hold")
        other = world()
        marks = []
        for step in Back().steps():
            marks.append(told(other))
            step(other)
        for mark in reversed(marks):
            double.back()
            self.assertEqual(told(double), mark)
        self.assertEqual(refusal(double.back), (NothingDone,))

    def test_back_in_both_from_the_same_mark(self):
        one = world()
        one.call("keep")
        one.call("hold")
        double = one.double()
        one.back()
        double.back()
        one.call("lend")
        double.call("make")
        double.call("make")
        other = world()
        other.call("keep")
        other.call("lend")
        self.assertEqual(told(one), told(other))

    def test_a_double_of_a_closed_world(self):
        one = world_of(HELPERS, {**BODIES, "none": "use a\ndone"})
        one.call("none")
        double = one.double()
        self.assertEqual(told(double), told(one))
        self.assertEqual(refusal(double.call, "none"), (Closed,))
        double.back()
        self.assertEqual((double.closed(), one.closed(), double.broken()), (False, True, None))


class Equal(unittest.TestCase):
    def test_sides_and_logs(self):
        one, other = world(), world()
        self.assertTrue(one == other)
        one.call("make")
        self.assertFalse(one == other)
        self.assertTrue(one != other)
        other.call("make")
        self.assertTrue(one == other)
        other.swap(side_of(pacts_of(HELPERS), 0, {**BODIES, "none": "throw shut"}))
        self.assertEqual(one.log(), other.log())
        self.assertNotEqual(one, other)
        one.swap(side_of(pacts_of(HELPERS), 0, {**BODIES, "none": "throw shut"}))
        one.swap(side_of(pacts_of(HELPERS), 1, BODIES))
        self.assertEqual(one, other)
        self.assertNotEqual(len(one), len(other))

    def test_the_far_side_counts_too(self):
        one, other = world(), world()
        other.swap(side_of(pacts_of(HELPERS), 1, {**BODIES, "make": "make b\ndone b"}))
        self.assertNotEqual(one, other)

    def test_other_kinds(self):
        for thing in (None, 0, "", [], world().log(), side_of(pacts_of(HELPERS), 0, BODIES)):
            self.assertFalse(world() == thing)
            self.assertTrue(world() != thing)


class Told(unittest.TestCase):
    def test_lists_are_the_askers_own(self):
        one = world()
        one.call("lend")
        before = told(one)
        for ask in (one.held, one.log, one.story):
            ask().append(7)
            ask().clear()
            ask()[0] = 7
        self.assertEqual(told(one), before)

    def test_a_side_without_helpers(self):
        pacts = pacts_of([("only", 1, (), False, ())])
        one = World(Side(pacts, 0, {}), Side(pacts, 1, {"only": "done"}))
        self.assertEqual(one.call("only"), ("done", "", None))


if __name__ == "__main__":
    unittest.main()
