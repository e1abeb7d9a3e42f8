"""Points 34 and 35: partners, roads and linked sides."""

import random
import unittest

from making import harmless, pacts_of, refusal, side_of
from pactford.errors import NoLines, NoSide, TooLong
from pactford.lines import is_lines, lines
from pactford.pacts import Pacts
from pactford.papers import is_paper, paper
from pactford.roads import linked, partner, road
from pactford.side import Side
from pactford.world import World
from plain_lines import Counts, drawn_facts, drawn_lines, lines_to
from plain_rules import PlainRules
from random_sides import do_deed, random_deed, random_pacts, random_side
from shelf_sides import shelf_side
from test_lines import BY_TOP, BY_WAIT, FILL, PACTS


def world_with_partner(side):
    both = [side, partner(side)]
    return World(*both) if side.number() == 0 else World(*both[::-1])


def entered(world):
    return len([entry for entry in world.log() if entry[0] == "entered"])


def lines_to_break(side, *break_fact):
    """Lines by the plain rules to a break of these parts."""
    how = drawn_facts(None, PlainRules(side), "E", most=20000)
    return lines_to(how, ("break", *break_fact))


def followed(facts, *, ahead=0):
    """Lines of facts, each one alone from the one ahead, behind so many lines."""
    return [(fact, ahead + at - 1 if ahead + at else None, None) for at, fact in enumerate(facts)]


def ordered(how, target):
    """Lines to a fact where each fact was led to as how tells, in whatever order."""
    order = []
    queue = [target]
    while queue:
        left = [one for one in how[queue[-1]] if one is not None and one not in order]
        if left:
            queue.append(left[0])
        else:
            order.append(queue.pop())
    order = list(dict.fromkeys(order))
    numbers = {fact: at for at, fact in enumerate(order)}
    return [(fact, *[None if one is None else numbers[one] for one in how[fact]]) for fact in order]


class Walk(unittest.TestCase):
    def walk(self, side, told):
        """Do the road of lines; told are the world behind it and the road."""
        found = road(side, told)
        calls = Counts(PlainRules(side), told).calls()
        self.assertIsInstance(found, list)
        self.assertEqual([name for name, _ in found], [name for name, _ in calls])
        world = world_with_partner(side)
        for at, (name, picks) in enumerate(found):
            self.assertIsInstance(picks, list)
            ahead = entered(world)
            how = world.call(name, picks=picks)[0]
            self.assertEqual(entered(world) - ahead, calls[at][1])
            self.assertIn(how, ("broke",) if at == len(found) - 1 else ("done", "threw"))
            self.assertEqual(world.shelf(1 - side.number()), "E")
        _, name, _, row, reason = told[-1][0]
        broken = world.broken()
        self.assertEqual((broken[0], broken[2], broken[3]), (reason, name, side.place(name, row)))
        return world, found


class Roads(Walk):
    def setUp(self):
        self.side = Side(PACTS, 0, {"only": FILL})

    def test_one_call(self):
        side = Side(PACTS, 0, {"only": "use a\ndone"})
        self.assertEqual(self.walk(side, lines(side))[1], [("only", [])])
        self.assertEqual(road(told=lines(side), side=side), [("only", [])])

    def test_several_calls_and_what_they_leave(self):
        self.assertEqual(self.walk(self.side, BY_TOP)[1], [("only", [0]), ("only", [0])])

    def test_three_calls(self):
        # What was lent is left on the shelf, then something owned in its place; only then it is full.
        pacts = pacts_of([("leave", 0, ("lent",), False, ()), ("look", 0, (), False, ("shut",)), ("far", 1, (), False, ())])
        side = Side(pacts, 0, {"leave": "put a\ndone", "look": "take a\nforget a\nmake a\npick 6\nput a\nthrow shut\nfree a\ndone"})
        told = lines_to_break(side, "leave", "O", 0, "full")
        world, found = self.walk(side, told)
        self.assertEqual(found, [("leave", []), ("look", [0]), ("leave", [])])
        self.assertEqual([entry[2:4] for entry in world.log() if entry[0] == "ended"], [("", None), ("shut", None)])
        told = lines_to_break(side, "look", "E", 0, "empty")
        self.assertEqual(self.walk(side, told)[1], [("look", [])])

    def test_facts_besides_are_no_calls(self):
        how = drawn_facts(None, PlainRules(self.side), "E")
        besides = [fact for fact in how if fact[0] in ("end", "top")]
        told = lines_to(how, BY_WAIT[12][0], besides)
        self.assertIn(("top", "O"), [fact for fact, _, _ in told])
        self.assertEqual(self.walk(self.side, told)[1], [("only", [1, 1, 0, 1, 0])])

    def test_calls_back_from_the_partner(self):
        # only: to row 4; calm: calls only; only: fills; calm: anew, and done.
        self.assertEqual(self.walk(self.side, BY_WAIT)[1], [("only", [1, 1, 0, 1, 0])])

    def test_a_break_of_an_inner_call(self):
        told = [*BY_WAIT[:10], (("enter", "only", "O"), 9, None), *[
            (fact, at + 10, None) for at, (fact, _, _) in enumerate(BY_TOP[9:])]]
        world, found = self.walk(self.side, told)
        self.assertEqual(found, [("only", [1, 1, 0, 1, 1, 0])])
        self.assertEqual(world.broken()[1], 4)

    def test_inner_calls_of_the_own_side_and_of_the_partners(self):
        pacts = pacts_of([("outer", 0, (), False, ()), ("inner", 0, ("lent",), False, ()), ("calm", 1, ("given",), True, ()),
                          ("deep", 0, ("given",), False, ())])
        side = Side(pacts, 0, {"outer": "make a\ncall inner lend a\nclear a\ndone",
                               "inner": "make b\ncall calm give b to b\nclear b\nclear a\ndone",
                               "deep": "pick 3\nclear a\ndone\nuse b\ndone"})
        told = followed([
            ("top", "E"), ("enter", "outer", "E"), ("stand", "outer", "E", 0, "EEEEE", "E"),
            ("stand", "outer", "E", 1, "OEEEE", "E"), ("wait", "outer", "E", 1, "OEEEE", "E", "E"), ("enter", "inner", "E"),
            ("stand", "inner", "E", 0, "HEEEE", "E"), ("stand", "inner", "E", 1, "HOEEE", "E"),
            ("wait", "inner", "E", 1, "HEEEE", "E", "E"), ("enter", "deep", "E"), ("stand", "deep", "E", 0, "OEEEE", "E"),
            ("stand", "deep", "E", 3, "OEEEE", "E"), ("break", "deep", "E", 3, "empty")])
        world, found = self.walk(side, told)
        self.assertEqual(found, [("outer", [0, 0, 1, 1])])
        self.assertEqual([entry[2] for entry in world.log() if entry[0] == "entered"], ["outer", "inner", "calm", "deep"])

    def test_picks_of_rows_that_lead_to_the_row_behind(self):
        side = Side(PACTS, 0, {"only": "pick 1\npick 2\nuse a\ndone"})
        self.assertEqual(len(self.walk(side, lines(side))[1][0][1]), 2)

    def test_all_ends_of_a_partner(self):
        pacts = pacts_of([("only", 0, (), False, ()), ("other", 0, ("lent", "given"), True, ("spilt", "shut")),
                          ("far", 1, ("lent", "given", "lent"), True, ("full", "barred")), ("calm", 1, (), False, ("barred",))])
        call = "make a\nmake b\nmake c\ncall far lend a give b lend c to b on spilt b 8 on shut 12\nclear b\nclear a\nclear c\ngo 16"
        rows = [*call.split("\n"), "clear b", "clear a", "clear c", "go 16", "clear a", "clear c", "go 16", "go 16", "done"]
        for row in (4, 8, 12):
            changed = [*rows]
            changed[row] = "make b" if row != 12 else "use b"
            side = Side(pacts, 0, {"only": "\n".join(changed), "other": harmless(pacts, "other")})
            told = lines(side)
            self.assertEqual(told[-1][0], ("break", "only", "E", row, "full" if row != 12 else "empty"))
            self.walk(side, told)

    def test_of_a_said_body(self):
        side = self.side.changed({"only": "() (again ((call calm ()) (pick ((make x) (put x)) ()))) (done)"})
        told = lines_to_break(side, "only", "O", side.rows("only").index("put a"), "full")
        self.walk(side, told)

    def test_of_the_far_side(self):
        far = Side(PACTS, 1, {"calm": "call only on full b 3\npick 4\ndone\nuse e\nmake a\nput a\ndone"})
        told = lines(far)
        self.assertEqual(told[-1][0][4], "empty")
        self.assertEqual(self.walk(far, told)[1], [("calm", [0, 1])])
        told = lines_to_break(far, "calm", "O", 5, "full")
        self.assertEqual([name for name, _ in self.walk(far, told)[1]], ["calm", "calm"])

    def test_the_partner_passes_no_error_on(self):
        # An end by an error, thrown while calm waits, leaves the wait as it was.
        side = self.side.changed({"only": "pick 4\nmake a\nput a\ngo 6\ncall calm\ngo 8\nmake b\nthrow spilt b\nuse shelf\ndone"})
        how = drawn_facts(None, PlainRules(side), "E")
        joined = [fact for fact in how if fact[0] == "wait" and how[fact][1] is not None and fact[6] == "O"]
        self.assertEqual(how[joined[0]][1][3], "spilt")
        told = lines_to(how, ("break", "only", "O", 2, "full"))
        self.walk(side, told)

    def test_lists_are_the_askers_own(self):
        told = list(BY_WAIT)
        found = road(self.side, told)
        found[0][1].append(7)
        found.append(("only", []))
        self.assertEqual(road(self.side, told), [("only", [1, 1, 0, 1, 0])])
        self.assertEqual(told, BY_WAIT)
        many = road(self.side, BY_TOP)
        many[0][1].append(7)
        self.assertEqual(many[1], ("only", [0]))


class NoRoads(unittest.TestCase):
    def setUp(self):
        self.side = Side(PACTS, 0, {"only": FILL})

    def test_no_lines(self):
        for told in ([], BY_TOP[:12], [*BY_TOP, BY_TOP[12]], BY_TOP[1:], None, tuple(BY_TOP), "", 7, [None],
                     [(("top", "E"), None, None)], lines(self.side, begin="O"), lines(self.side, begin="X")):
            self.assertEqual(refusal(road, self.side, told), (NoLines,))
        self.assertIsNone(refusal(road, self.side, BY_TOP))
        self.assertEqual(refusal(road, Side(PACTS, 0, {"only": "done"}), BY_TOP), (NoLines,))
        self.assertEqual(refusal(road, Side(PACTS, 1, {"calm": "done"}), BY_TOP), (NoLines,))
        self.assertEqual(refusal(road, Side(PACTS, 1, {"calm": "use a\ndone"}), BY_TOP), (NoLines,))


class Long(Walk):
    """How many calls are entered, by the counts of the lines."""

    PACTS = pacts_of([("outer", 0, (), False, ()), ("inner", 0, (), False, ()), ("twice", 0, (), False, ()),
                      ("last", 0, (), False, ()), ("far", 1, (), False, ())])

    def side(self, calls, behind, *, last="done"):
        """A side with a helper that calls helpers, then does the rows behind."""
        return Side(self.PACTS, 0, {"outer": "\n".join([*[f"call {name}" for name in calls], *behind]), "inner": "done",
                                    "twice": "call inner\ndone", "last": last})

    def check(self, side, fact, counts):
        told = lines_to_break(side, *fact)
        self.assertEqual([count for _, count in Counts(PlainRules(side), told).calls()], counts)
        if max(counts) > 200:
            self.assertEqual(refusal(road, side, told), (TooLong,))
        else:
            self.walk(side, told)

    def test_the_last_call(self):
        for twice, far, count in ((0, 0, 199), (1, 0, 200), (2, 0, 201), (1, 7, 200), (2, 7, 201), (0, 198, 199), (198, 0, 397)):
            calls = ["twice"] * twice + ["far"] * far + ["inner"] * (198 - twice - far)
            side = self.side(calls, ["use a", "done"])
            self.check(side, ("outer", "E", 198, "empty"), [count])

    def test_calls_ahead_of_the_last_one(self):
        last = "make a\nput a\ntake a\nclear a\ndone"
        for twice, far, count in ((3, 0, 199), (4, 0, 200), (5, 0, 201), (4, 9, 200), (5, 9, 201)):
            calls = ["twice"] * twice + ["far"] * far + ["inner"] * (195 - twice - far)
            side = self.side(calls, ["make a", "put a", "done"], last=last)
            self.check(side, ("last", "O", 1, "full"), [count, 1])

    def test_the_calls_around_it(self):
        # Of the last row but one another call is entered, by itself or from far, in which it breaks.
        for name, more in (("last", 0), ("far", 1)):
            for twice, far, count in ((0, 0, 199), (1, 0, 200), (2, 0, 201), (1, 7, 200), (2, 7, 201)):
                calls = ["twice"] * twice + ["far"] * far
                calls = [*calls, *["inner"] * (197 - more - len(calls)), name]
                side = self.side(calls, [*["clear a"] * more, "done"], last="use b\ndone")
                how = drawn_facts(None, PlainRules(side), "E", most=20000)
                told = lines_to(how, ("wait", "outer", "E", len(calls) - 1, "EEEEE", "E", "E"))
                wait = len(told) - 1
                told += followed([("enter", "last", "E"), ("stand", "last", "E", 0, "EEEEE", "E"),
                                  ("break", "last", "E", 0, "empty")], ahead=len(told))
                if name == "far":
                    # A fact besides, of the call around, stands just ahead of the last line.
                    told[-1:-1] = [(("stand", "outer", "E", len(calls), "EEEEE", "E"), wait, None)]
                self.assertEqual(Counts(PlainRules(side), told).calls(), [("outer", count)])
                if count > 200:
                    self.assertEqual(refusal(road, side, told), (TooLong,))
                else:
                    self.walk(side, told)

    def test_the_calls_around_the_calls_around_it(self):
        # outer calls 100 helpers and then twice, which calls some and then last.
        for many, count in ((96, 199), (97, 200), (98, 201)):
            side = Side(self.PACTS, 0, {"outer": "\n".join([*["call inner"] * 100, "call twice", "done"]), "inner": "done",
                                        "twice": "\n".join([*["call inner"] * many, "call last", "done"]), "last": "use b\ndone"})
            how = drawn_facts(None, PlainRules(side), "E", most=20000)
            how[("enter", "twice", "E")] = (("wait", "outer", "E", 100, "EEEEE", "E", "E"), None)
            how[("enter", "last", "E")] = (("wait", "twice", "E", many, "EEEEE", "E", "E"), None)
            told = ordered(how, ("break", "last", "E", 0, "empty"))
            self.assertEqual(Counts(PlainRules(side), told).calls(), [("outer", count)])
            if count > 200:
                self.assertEqual(refusal(road, side, told), (TooLong,))
            else:
                self.walk(side, told)

    def test_a_break_where_an_error_passes(self):
        pacts = pacts_of([("outer", 0, (), False, ()), ("throws", 0, (), False, ("shut",)), ("inner", 0, (), False, ()),
                          ("far", 1, (), False, ())])
        # The error of the very last call comes to a row that has no catch.
        for inner, far, count in ((197, 0, 199), (196, 1, 199)):
            for more in (0, 1, 2):
                throws = "\n".join([*["call far"] * more, "throw shut"])
                rows = [*["call inner"] * inner, *["call far"] * far, "call throws", "done"]
                side = Side(pacts, 0, {"outer": "\n".join(rows), "throws": throws, "inner": "done"})
                self.check(side, ("outer", "E", 197, "unnamed"), [count + more])

    def test_no_lines_comes_ahead_of_too_long(self):
        side = self.side(["twice"] * 198, ["use a", "done"])
        told = lines_to_break(side, "outer", "E", 198, "empty")
        self.assertEqual(refusal(road, side, told), (TooLong,))
        self.assertEqual(refusal(road, side, told[:-1]), (NoLines,))

    def test_counts_beyond_all_bounds(self):
        calls = "\n".join(["call {}"] * 198)
        side = Side(self.PACTS, 0, {"outer": calls.format(*["inner"] * 198) + "\nuse a\ndone",
                                    "inner": calls.format(*["twice"] * 198) + "\ndone",
                                    "twice": calls.format(*["last"] * 198) + "\ndone", "last": "done"})
        told = lines_to_break(side, "outer", "E", 198, "empty")
        self.assertEqual(Counts(PlainRules(side), told).calls(), [("outer", 1 + 198 * (1 + 198 * (1 + 198)))])
        self.assertEqual(refusal(road, side, told), (TooLong,))

    def test_what_is_besides_does_not_count(self):
        side = self.side(["twice"] * 198, ["clear a", "done"], last="use a\ndone")
        how = drawn_facts(None, PlainRules(side), "E", most=20000)
        told = lines_to(how, ("break", "last", "E", 0, "empty"), [("end", "outer", "E", "", "E")])
        self.assertGreater(max(Counts(PlainRules(side), told).counts.values()), 200)
        self.assertEqual(self.walk(side, told)[1], [("last", [])])


class Partners(unittest.TestCase):
    def check(self, side):
        other = partner(side)
        self.assertIsInstance(other, Side)
        self.assertEqual((other.number(), other.pacts()), (1 - side.number(), side.pacts()))
        facts = paper(other)
        self.assertIsNotNone(facts)
        self.assertTrue(is_paper(other, facts))
        self.assertEqual([fact for fact in facts if fact[0] == "top"], [("top", "E")])
        return other

    def test_of_either_number(self):
        for number in (0, 1):
            for seed in range(6000, 6040):
                rng = random.Random(seed)
                pacts = random_pacts(rng, most_helpers=4)
                side = random_side(rng, pacts, number, mended=0)
                other = self.check(side)
                again = Side(pacts, number, {name: side.body(name) for name in pacts.names(number)})
                self.assertEqual(partner(again), other)
                self.assertEqual(partner(side=side), other)
                self.check(other)

    def test_of_pacts_without_helpers_on_one_side(self):
        for number in (0, 1):
            pacts = Pacts([("spilt", "full", True)], [("only", number, ("lent",), False, (("spilt", "full")[number],))])
            side = Side(pacts, number, {"only": "use shelf\ndone"})
            other = self.check(side)
            self.assertEqual(refusal(other.body, "only")[1:], ("only",))
            self.assertEqual(road(side, lines(side)), [("only", [])])
            self.check(other)
        nothing = Pacts([], [])
        for number in (0, 1):
            self.assertEqual(self.check(Side(nothing, number, {})), Side(nothing, 1 - number, {}))

    def test_of_the_greatest_pacts(self):
        pairs = [(f"near{sign}", f"far{sign}", at % 2 == 0) for at, sign in enumerate("abcdef")]
        helpers = [(f"helper{sign}", side, ("lent", "given", "lent"), True, tuple(pair[side] for pair in pairs[at % 3:][:4]))
                   for side in (0, 1) for at, sign in enumerate("abcd" if side else "efgh")]
        pacts = Pacts(pairs, helpers)
        for number in (0, 1):
            side = Side(pacts, number, {name: "clear a\nclear b\nclear c\nuse shelf\nmake a\ndone a" for name in pacts.names(number)})
            self.check(side)
            found = road(side, lines(side))
            self.assertEqual(len(found), 1)

    def test_the_shelf_stays_without_anything(self):
        broke = 0
        for seed in range(6100, 6200):
            rng = random.Random(seed)
            pacts = random_pacts(rng)
            number = rng.randrange(2)
            side = shelf_side(rng, pacts, number) if rng.random() < 0.5 else random_side(rng, pacts, number)
            world = world_with_partner(side)
            for _ in range(12):
                if world.closed():
                    break
                self.assertIn(refusal(do_deed, world, random_deed(rng, pacts, world.held())), (None, (TooLong,)))
                self.assertEqual(world.shelf(1 - number), "E")
            if world.broken():
                broke += 1
                self.assertIn(world.broken()[2], pacts.names(number))
                self.assertIsNotNone(lines(side))
        self.assertGreater(broke, 30)


class Linked(unittest.TestCase):
    def test_linked_and_not(self):
        near = {True: Side(PACTS, 0, {"only": "done"}), False: Side(PACTS, 0, {"only": "use shelf\ndone"})}
        far = {True: Side(PACTS, 1, {"calm": "done"}), False: Side(PACTS, 1, {"calm": "take a\ndone"})}
        for one in (True, False):
            for other in (True, False):
                self.assertIs(linked(near[one], far[other]), one and other)
        self.assertIs(linked(far=far[True], near=near[True]), True)
        # A paper for another letter is none for E.
        self.assertIsNotNone(paper(near[False], begin="O"))

    def test_no_side(self):
        near, far = Side(PACTS, 0, {"only": "done"}), Side(PACTS, 1, {"calm": "done"})
        other = pacts_of([("only", 0, (), False, ("spilt",)), ("calm", 1, (), True, ())])
        for sides, at in (((far, near), 0), ((far, far), 0), ((near, near), 1), ((near, side_of(other, 1, {"calm": "make a\ndone a"})), 1),
                          ((side_of(other, 0, {"only": "done"}), far), 1), ((far, side_of(other, 0, {"only": "done"})), 0)):
            self.assertEqual(refusal(linked, *sides), (NoSide, at))
        broken = Side(PACTS, 0, {"only": "use a\ndone"})
        self.assertEqual(refusal(linked, broken, broken), (NoSide, 1))

    def test_with_a_partner(self):
        for seed in range(6200, 6230):
            rng = random.Random(seed)
            pacts = random_pacts(rng)
            side = random_side(rng, pacts, 0)
            self.assertIs(linked(side, partner(side)), paper(side) is not None)


class Many(Walk):
    def test_roads_lead_to_their_breaks(self):
        counts = {"calls": 0, "inner": 0, "joined": 0, "roads": 0}
        reasons = set()
        for seed in range(7000, 7700):
            rng = random.Random(seed)
            pacts = random_pacts(rng, most_helpers=rng.choice((1, 2, 3, 4)))
            number = rng.randrange(2)
            side = shelf_side(rng, pacts, number) if rng.random() < 0.8 else random_side(rng, pacts, number, mended=0)
            rules = PlainRules(side)
            for told in (lines(side), drawn_lines(rng, rules, "E")):
                if told is None:
                    continue
                self.assertTrue(is_lines(side, told))
                if max(count for _, count in Counts(rules, told).calls()) > 200:
                    self.assertEqual(refusal(road, side, told), (TooLong,))
                    continue
                with self.subTest(seed):
                    found = self.walk(side, told)[1]
                counts["roads"] += 1
                counts["calls"] += len(found) > 1
                counts["inner"] += "wait" in [told[first][0][0] for fact, first, _ in told if fact[0] == "enter"]
                counts["joined"] += any(fact[0] == "wait" and second is not None for fact, _, second in told)
                reasons.add(told[-1][0][4])
        self.assertGreater(counts["roads"], 800)
        self.assertGreater(counts["calls"], 100)
        self.assertGreater(counts["inner"], 60)
        self.assertGreater(counts["joined"], 20)
        self.assertEqual(reasons, {"empty", "full", "stale", "lent", "kept", "out", "unnamed"})


if __name__ == "__main__":
    unittest.main()
