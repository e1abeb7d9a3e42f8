"""Points 29 to 32: letters, facts, rules and papers."""

import random
import unittest

from making import harmless, pacts_of, refusal, side_of
from pactford.errors import NoHelper, NoLetter, TooLong
from pactford.pacts import Pacts
from pactford import papers
from pactford.papers import EMPTY, paper
from pactford.rules import Rules as PackageRules
from pactford.side import Side
from pactford.world import World
from plain_rules import PlainRules
from random_sides import do_deed, random_deed, random_pacts, random_side

HELPERS = [
    ("run", 0, ("lent", "given"), True, ("spilt", "shut")),
    ("peer", 0, ("lent",), False, ("spilt",)),
    ("far", 1, ("given", "lent"), True, ("full", "barred")),
    ("calm", 1, (), False, ()),
]
PACTS = pacts_of(HELPERS)


def is_paper(*things, **named):
    told = papers.is_paper(*things, **named)
    assert isinstance(told, bool)
    return told


def closed(rules, facts):
    """The facts and all to which the rules lead from them."""
    facts = set(facts)
    fresh = facts
    while fresh:
        fresh = rules.led(fresh, facts) - facts
        facts = facts | fresh
    return facts


def breaks(facts):
    return [fact for fact in facts if fact[0] == "break"]


def side(run, peer="done"):
    """A side of two helpers, both in rows where no bracket tells otherwise."""
    return Side(PACTS, 0, {"run": run, "peer": peer})


def one(*rows):
    """A side of pacts with one helper, that takes and gives nothing, of these rows."""
    pacts = pacts_of([("only", 0, (), False, ("spilt",)), *HELPERS[2:]])
    return Side(pacts, 0, {"only": "\n".join(rows)})


class Made(unittest.TestCase):
    def test_a_small_one(self):
        self.assertEqual(paper(side("free b\nmake c\ndone c", "use a\ndone")), [
            ("end", "peer", "E", "", "E"), ("end", "run", "E", "", "E"),
            ("enter", "peer", "E"), ("enter", "run", "E"),
            ("stand", "peer", "E", 0, "HEEEE", "E"), ("stand", "peer", "E", 1, "HEEEE", "E"),
            ("stand", "run", "E", 0, "HOEEE", "E"), ("stand", "run", "E", 1, "HEEEE", "E"),
            ("stand", "run", "E", 2, "HEOEE", "E"), ("top", "E")])

    def test_empty_is_the_letter_that_is_left_out(self):
        self.assertEqual(EMPTY, "E")
        told = side("free b\nmake c\ndone c")
        self.assertEqual(paper(told), paper(told, begin="E"))
        self.assertEqual(paper(told), paper(begin=EMPTY, side=told))

    def test_a_paper_for_each_letter(self):
        told = side("free b\nmake c\ndone c", "use shelf\ndone")
        self.assertIsNone(paper(told, begin="E"))
        self.assertIsNone(paper(told, begin="X"))
        self.assertEqual(paper(told, begin="O"), [
            ("end", "peer", "O", "", "O"), ("end", "run", "O", "", "O"),
            ("enter", "peer", "O"), ("enter", "run", "O"),
            ("stand", "peer", "O", 0, "HEEEE", "O"), ("stand", "peer", "O", 1, "HEEEE", "O"),
            ("stand", "run", "O", 0, "HOEEE", "O"), ("stand", "run", "O", 1, "HEEEE", "O"),
            ("stand", "run", "O", 2, "HEOEE", "O"), ("top", "O")])
        told = side("free b\nmake c\ndone c", "take b\ndone")
        self.assertIsNone(paper(told, begin="E"))
        self.assertIsNone(paper(told, begin="O"))
        # Behind the first call the shelf holds nothing.
        self.assertIsNone(paper(told, begin="X"))
        told = side("free b\nmake c\ndone c", "make b\nput b\ndone")
        self.assertIsNone(paper(told, begin="E"))
        self.assertIsNone(paper(told, begin="X"))
        told = side("free b\nmake c\ndone c", "put a\ndone")
        self.assertIn(("top", "X"), paper(told, begin="E"))
        self.assertNotIn(("top", "E"), paper(told, begin="X"))
        self.assertIsNone(paper(told, begin="O"))

    def test_no_letter(self):
        told = side("free b\nmake c\ndone c")
        for letter in ("", "H", "U", "B", "e", "EO", "OX", "EOX", " E", None, 0, True, ["E"], ("E",)):
            self.assertEqual(refusal(paper, told, begin=letter), (NoLetter, letter))
            self.assertEqual(refusal(is_paper, told, [], begin=letter), (NoLetter, letter))
            self.assertEqual(refusal(is_paper, told, None, begin=letter), (NoLetter, letter))

    def test_a_side_without_helpers(self):
        told = Side(Pacts([], [HELPERS[3]]), 0, {})
        for letter in "EOX":
            self.assertEqual(paper(told, begin=letter), [("top", letter)])
            self.assertTrue(is_paper(told, [("top", letter)], begin=letter))

    def test_the_far_side(self):
        told = side_of(PACTS, 1, {"far": "free a\nmake a\ncall peer lend b on full e 3\nclear e\ndone a", "calm": "done"})
        self.assertEqual([fact for fact in paper(told) if fact[0] == "wait"],
                         [("wait", "far", "E", 2, "OHEEE", "E", "E")])
        self.assertIn(("stand", "far", "E", 3, "OHEEO", "E"), paper(told))

    def test_a_told_list_is_the_askers_own(self):
        told = side("free b\nmake c\ndone c")
        facts = paper(told)
        ahead = list(facts)
        facts.append(7)
        self.assertEqual(paper(told), ahead)


class Rows(unittest.TestCase):
    """Rule d, on a side of one helper: what each row leaves, and which letters break it."""

    def led(self, pockets, shelf, *rows, start="E"):
        """What follows from the stand at row 0 with these letters, but for the words told by others."""
        told = one(*rows)
        fact = ("stand", "only", start, 0, pockets, shelf)
        found = PlainRules(told).alone(fact)
        self.check(told, fact, found)
        return found

    def check(self, told, fact, found):
        """A list of all that follows from some facts is a paper where no break is among them, and only then."""
        facts = sorted(closed(PlainRules(told), {("top", "E"), fact}))
        self.assertEqual(is_paper(told, facts), not breaks(facts))
        self.assertEqual(PackageRules(told).from_one(fact), found)
        for led in found:
            less = [one for one in facts if one != led and one[0] != "break"]
            if len(less) < len(facts):
                self.assertFalse(is_paper(told, less))

    def test_what_rows_leave(self):
        for row, pockets, shelf, left in (
                ("make a", "EOHUX", "B", ("OOHUX", "B")), ("make c", "EOHUX", "E", ("EOOUX", "E")),
                ("make e", "EOHUX", "U", ("EOHUO", "U")), ("free b", "EOHUX", "H", ("EEHUX", "H")),
                ("clear b", "EOHUX", "O", ("EEHUX", "O")), ("clear d", "EOHUX", "O", ("EOHEX", "O")),
                ("clear a", "EOHUX", "O", ("EOHUX", "O")), ("forget c", "EOHUX", "O", ("EOEUX", "O")),
                ("forget e", "EOHUX", "O", ("EOHUE", "O")), ("move b a", "EOHUX", "O", ("OEHUX", "O")),
                ("move d c", "EOHUX", "O", ("EOUEX", "O")), ("move e a", "EOHUX", "O", ("XOHUE", "O")),
                ("put b", "EOHUX", "X", ("EEHUX", "O")), ("put c", "EOHUX", "E", ("EOEUX", "H")),
                ("put d", "EOHUX", "H", ("EOHEX", "U")), ("put e", "EOHUX", "U", ("EOHUE", "X")),
                ("take a", "EOHUX", "O", ("OOHUX", "E")), ("take c", "EOHUX", "H", ("EOHUX", "E")),
                ("take d", "EOHUX", "X", ("EOHXX", "E")), ("take e", "EOHUX", "U", ("EOHUU", "E")),
                ("use b", "EOHUX", "O", ("EOHUX", "O")), ("use c", "EOHUX", "O", ("EOHUX", "O")),
                ("use d", "EOHUX", "O", ("EOHUX", "O")), ("use shelf", "EOHUX", "B", ("EOHUX", "B")),
                ("use shelf", "EOHUX", "O", ("EOHUX", "O")), ("use shelf", "EOHUX", "H", ("EOHUX", "H")),
                ("use shelf", "EOHUX", "U", ("EOHUX", "U"))):
            with self.subTest(row, shelf=shelf):
                self.assertEqual(self.led(pockets, shelf, row, *[f"clear {one}" for one in "abcde"], "done"),
                                 [("stand", "only", "E", 1, *left)])

    def test_breaks(self):
        for row, shelf, reason in (
                ("make b", "E", "full"), ("use a", "E", "empty"), ("use e", "E", "stale"), ("use shelf", "E", "empty"),
                ("use shelf", "X", "stale"), ("free a", "E", "empty"), ("free c", "E", "lent"), ("free d", "E", "lent"),
                ("free e", "E", "stale"), ("forget b", "E", "kept"), ("move a b", "E", "empty"), ("move c b", "E", "full"),
                ("put a", "O", "empty"), ("put b", "O", "full"), ("put c", "B", "full"), ("take a", "E", "empty"),
                ("take b", "E", "empty"), ("take b", "B", "out"), ("take a", "B", "out"), ("take b", "O", "full"),
                ("throw spilt b", "E", "-"), ("throw spilt c", "E", "lent"), ("throw spilt a", "E", "empty"),
                ("throw shut", "E", "unnamed"), ("done", "E", "kept"), ("calls", "E", "full")):
            row = "call far give b lend c to b on spilt b 0" if row == "calls" else row
            found = self.led("EOHUX", shelf, row, *[f"clear {one}" for one in "abcde"], "done")
            with self.subTest(row, shelf=shelf):
                if reason == "-":
                    self.assertEqual(found, [("end", "only", "E", "spilt", "E")])
                elif row.startswith("call"):
                    self.assertEqual(found[0][0], "wait")
                else:
                    self.assertEqual(found, [("break", "only", "E", 0, reason)])

    def test_call_rows(self):
        tail = [*[f"clear {pocket}" for pocket in "abcde"], "done"]
        for row, pockets, shelf, led in (
                ("call far give b lend c to e", "EOHUX", "B", ("EEHUX", "B", "B")),
                ("call far give b lend shelf to e", "EOHUX", "B", ("EEHUX", "B", "B")),
                ("call far give b lend shelf to e", "EOHUX", "O", ("EEHUX", "O", "B")),
                ("call far give b lend c to e", "EOHUX", "O", ("EEHUX", "O", "O")),
                ("call far give b lend shelf to b on spilt b 1", "EOHUX", "H", ("EEHUX", "H", "H")),
                ("call far give b lend shelf to a", "EOHUX", "U", ("EEHUX", "U", "U")),
                ("call far give b lend d to c", "EOHUX", "X", ("EEHUX", "X", "X"))):
            with self.subTest(row, shelf=shelf):
                self.assertEqual(self.led(pockets, shelf, row, *tail), [("wait", "only", "E", 0, *led)])
        for row, pockets, shelf, reason in (
                ("call far give b lend b to e", "EOHUX", "O", "empty"), ("call far give b lend a to e", "EOHUX", "O", "empty"),
                ("call far give b lend e to e", "EOHUX", "O", "stale"), ("call far give c lend a to e", "EOHUX", "O", "lent"),
                ("call far give d lend a to e", "EOHUX", "O", "lent"), ("call far give e lend a to e", "EOHUX", "O", "stale"),
                ("call far give a lend e to e", "EOHUX", "O", "empty"), ("call far give b lend shelf to e", "EOHUX", "E", "empty"),
                ("call far give b lend shelf to e", "EOHUX", "X", "stale"), ("call far give b lend c to d", "EOHOX", "O", "full"),
                ("call far give b lend c to e on spilt d 0", "EOHOX", "O", "full"),
                ("call far give b lend c to e on shut 1 on spilt d 0", "EOHOX", "O", "full")):
            with self.subTest(row, shelf=shelf):
                self.assertEqual(self.led(pockets, shelf, row, *tail), [("break", "only", "E", 0, reason)])

    def test_an_argument_lent_and_then_given(self):
        pacts = pacts_of([("only", 0, (), False, ()), ("far", 1, ("lent", "given"), False, ())])
        told = Side(pacts, 0, {"only": "make a\ncall far lend a give a\ndone"})
        self.assertIsNone(paper(told))
        told = Side(pacts, 0, {"only": "make a\nmake b\ncall far lend a give b\nfree a\ndone"})
        self.assertIsNotNone(paper(told))

    def test_pick_and_go(self):
        told = one("pick 3", "go 3", "use a", "done")
        self.assertEqual([fact[3] for fact in paper(told) if fact[0] == "stand"], [0, 1, 3])
        self.assertIsNone(paper(one("pick 2", "done", "use a", "done")))
        self.assertIsNone(paper(one("pick 2", "use a", "done")))
        self.assertIsNotNone(paper(one("go 2", "use a", "done")))
        self.assertIsNone(paper(one("make a", "pick 0", "clear a", "done")))
        self.assertIsNotNone(paper(one("pick 0", "done")))


class Rules(unittest.TestCase):
    """The rules over calls, by whether some sides have papers, and by what is in them."""

    def facts(self, *kinds, told, begin="E"):
        facts = paper(told, begin=begin)
        self.assertIsNotNone(facts)
        return [fact for fact in facts if fact[0] in kinds]

    def test_entering(self):
        told = side("clear b\nput a\ndone c", "done").changed({"run": "clear b\nput a\nmake c\ndone c"})
        self.assertEqual(self.facts("top", "enter", told=told), [
            ("enter", "peer", "E"), ("enter", "peer", "X"), ("enter", "run", "E"), ("enter", "run", "X"),
            ("top", "E"), ("top", "X")])
        self.assertEqual(self.facts("top", "end", told=told), [
            ("end", "peer", "E", "", "E"), ("end", "peer", "X", "", "X"), ("end", "run", "E", "", "H"),
            ("end", "run", "X", "", "H"), ("top", "E"), ("top", "X")])

    def test_a_shelf_that_owns_at_the_top(self):
        told = one("pick 2", "done", "clear a", "pick 6", "make a", "go 8", "use shelf", "done", "clear a", "done")
        self.assertIsNone(paper(told))
        told = one("make a", "pick 4", "clear a", "done", "clear a", "done")
        self.assertEqual(self.facts("top", told=told, begin="O"), [("top", "O")])

    def test_waiting_on_the_other_side(self):
        told = one("make a", "make b", "call far give a lend b to a on spilt c 4 on shut 5", "use a", "use b", "clear a",
                   "clear b", "clear c", "done")
        self.assertEqual(self.facts("wait", told=told), [("wait", "only", "E", 2, "EOEEE", "E", "E")])
        stands = self.facts("stand", told=told)
        self.assertIn(("stand", "only", "E", 3, "OOEEE", "E"), stands)
        self.assertIn(("stand", "only", "E", 4, "EOOEE", "E"), stands)
        self.assertIn(("stand", "only", "E", 5, "EOEEE", "E"), stands)

    def test_errors_that_pass(self):
        self.assertIsNone(paper(one("make a", "call far give a lend a to a", "done")))
        # shut is none of its throws.
        self.assertIsNone(paper(one("make a", "make b", "put b", "call far give a lend shelf to a on spilt a 4", "clear a",
                                    "done")))
        told = one("make a", "make b", "call far give a lend b to a on shut 3", "clear a", "clear b", "done")
        # spilt is, but b owns.
        self.assertIsNone(paper(told))
        told = one("pick 3", "clear a", "done", "make a", "call far give a lend shelf to a on shut 5", "clear a", "done")
        self.assertIsNone(paper(told, begin="E"))
        self.assertEqual(self.facts("end", told=told, begin="O"),
                         [("end", "only", "B", "", "B"), ("end", "only", "B", "spilt", "B"),
                          ("end", "only", "O", "", "O"), ("end", "only", "O", "spilt", "O")])

    def test_views(self):
        # A lent handle on the shelf is seen as U from within another call, and so on.
        pacts = pacts_of([("only", 0, ("lent",), False, ()), ("far", 1, (), False, ())])
        told = Side(pacts, 0, {"only": "pick 3\nclear a\ndone\nput a\ncall far\ndone"})
        self.assertEqual(self.facts("enter", told=told),
                         [("enter", "only", "E"), ("enter", "only", "U"), ("enter", "only", "X")])
        self.assertEqual(self.facts("wait", told=told),
                         [("wait", "only", start, 4, "EEEEE", "H", shelf) for start in "EUX" for shelf in "HX"])
        self.assertEqual(self.facts("end", told=told),
                         [("end", "only", start, "", letter) for start in "EUX"
                          for letter in sorted({start} | set("HX"))])

    def test_looks_at_a_handle_that_is_lent_to_another_call(self):
        pacts = pacts_of([("outer", 0, ("lent",), False, ()), ("inner", 0, (), True, ("spilt",)),
                          ("eats", 0, ("given",), False, ()), ("uses", 0, ("lent",), False, ())])
        # At the top the shelf owns; where outer calls inner it holds what was lent to outer.
        outer = "take b\nput a\ncall inner to d on spilt d 3\ntake c\nclear c\nput b\nclear d\ndone"
        for row, right in (("use a", True), ("use shelf", True), ("clear a", True), ("forget e", True), ("move a b", True),
                           ("call uses lend a", True), ("free a", False), ("call eats give a", False),
                           ("done a", False), ("throw spilt a", False)):
            inner = ["take a", row, "clear a", "clear b", "make c", "put c", "make d", "done d"]
            if row == "use shelf":
                inner = ["use shelf", "make d", "done d"]
            if row in ("done a", "throw spilt a"):
                inner = ["take a", "make b", "put b", row]
            told = Side(pacts, 0, {"outer": outer, "inner": "\n".join(inner),
                                   "eats": "free a\ndone", "uses": "use a\ndone"})
            with self.subTest(row):
                self.assertEqual(paper(told, begin="O") is not None, right)

    def test_views_and_backs_of_each_letter(self):
        # far lets only be entered, which leaves the shelf or makes of it what it may.
        pacts = pacts_of([("only", 0, ("lent",), False, ()), ("far", 1, ("lent",), False, ())])
        told = Side(pacts, 0, {"only": "clear a\ndone"})
        for wait, view in (("H", "U"), ("U", "U"), ("X", "X"), ("E", "E"), ("O", "O"), ("B", "B")):
            calls = told.changed({"only": "call far lend a\nclear a\ndone"})
            fact = ("wait", "only", "E", 0, "HEEEE", wait, wait)
            self.assertIn(("enter", "only", view), PlainRules(calls).alone(fact))
            for end, back in (("H", "X"), ("U", wait), ("X", "X"), ("E", "E"), ("O", "O"), ("B", "B")):
                self.assertEqual(PlainRules(calls).both(fact, ("end", "only", view, "", end)), [fact[:6] + (back,)])

    def test_waiting_on_the_own_side(self):
        told = side("free b\ncall peer lend a on spilt b 2\nclear b\nmake b\ndone b", "pick 3\nput a\ndone\nmake b\nthrow spilt b")
        self.assertEqual(self.facts("wait", told=told),
                         [("wait", "run", start, 1, "HEEEE", start, start) for start in "EX"])
        self.assertIn(("stand", "run", "E", 2, "HOEEE", "E"), paper(told))
        self.assertIn(("stand", "run", "E", 2, "HEEEE", "X"), paper(told))
        self.assertIn(("stand", "run", "X", 2, "HOEEE", "X"), paper(told))
        self.assertNotIn(("stand", "run", "E", 2, "HOEEE", "X"), paper(told))
        # An error that peer never ends by does not come to run.
        told = told.changed({"run": "free b\nmake b\ncall peer lend a\ndone b", "peer": "done"})
        self.assertIsNotNone(paper(told))
        self.assertIsNone(paper(told.changed({"peer": "make b\nthrow spilt b"})))

    def test_only_the_called_helper_of_the_own_side_is_entered(self):
        told = side("free b\nput a\ncall peer lend shelf\ntake a\nmake b\ndone b", "done")
        self.assertEqual(self.facts("enter", told=told), [
            ("enter", "peer", "E"), ("enter", "peer", "U"), ("enter", "run", "E")])

    def test_a_shelf_that_is_lent_out(self):
        told = one("use shelf", "make a", "call far give a lend shelf to a on spilt a 3 on shut 3", "clear a", "done")
        self.assertEqual(self.facts("wait", "enter", "top", told=told, begin="O"), [
            ("enter", "only", "B"), ("enter", "only", "O"), ("top", "O"),
            ("wait", "only", "B", 2, "EEEEE", "B", "B"), ("wait", "only", "O", 2, "EEEEE", "O", "B")])
        self.assertEqual(self.facts("end", told=told, begin="O"),
                         [("end", "only", "B", "", "B"), ("end", "only", "O", "", "O")])
        told = one("take b", "put b", "make a", "call far give a lend shelf to a on spilt a 4 on shut 4", "clear a", "done")
        self.assertIsNone(paper(told, begin="O"))

    def test_a_shelf_that_another_call_empties_and_fills(self):
        pacts = pacts_of([("only", 0, (), False, ()), ("far", 1, (), False, ()), ("swap", 0, (), False, ())])
        bodies = {"only": "use shelf\ncall far\nuse shelf\ndone", "swap": "take a\nfree a\nmake b\nput b\ndone"}
        told = Side(pacts, 0, bodies)
        self.assertIsNotNone(paper(told, begin="O"))
        self.assertIsNone(paper(told.changed({"swap": "take a\nfree a\nmake b\ncall far\nput b\ndone"}), begin="O"))
        self.assertIsNone(paper(told.changed({"swap": "take a\ncall far\nput a\ndone"}), begin="O"))

    def test_said_bodies(self):
        told = side("(x y) (call far (y x) to z (on shut ((make z)))) (done z)", "(x) (again ((use x))) (done)")
        facts = paper(told)
        self.assertTrue(is_paper(told, facts))
        self.assertIsNone(paper(told.changed({"run": "(x y) (call far (y x) to z (on shut ())) (done z)"})))


class IsPaper(unittest.TestCase):
    def setUp(self):
        self.side = side("free b\nmake c\nput a\ncall far give c lend shelf to d on spilt d 6 on shut 5\nclear d\nmake d\ndone d",
                         "pick 2\ndone\nmake b\nthrow spilt b")
        self.facts = paper(self.side)

    def test_any_order(self):
        self.assertTrue(is_paper(self.side, self.facts))
        self.assertTrue(is_paper(facts=self.facts[::-1], side=self.side))
        for seed in range(20):
            facts = list(self.facts)
            random.Random(seed).shuffle(facts)
            self.assertTrue(is_paper(self.side, facts))

    def test_one_too_few(self):
        for at in range(len(self.facts)):
            self.assertFalse(is_paper(self.side, self.facts[:at] + self.facts[at + 1:]))
        self.assertFalse(is_paper(self.side, []))

    def test_one_twice(self):
        for fact in self.facts:
            self.assertFalse(is_paper(self.side, [*self.facts, fact]))

    def test_the_begin(self):
        self.assertFalse(is_paper(self.side, self.facts, begin="O"))
        # X is in it, too, for the shelf is left stale.
        self.assertIn(("top", "X"), self.facts)
        self.assertTrue(is_paper(self.side, self.facts, begin="X"))
        self.assertNotEqual(paper(self.side, begin="X"), self.facts)

    def test_another_side(self):
        other = self.side.changed({"peer": "done"})
        self.assertTrue(is_paper(other, paper(other)))
        self.assertFalse(is_paper(other, self.facts))
        self.assertFalse(is_paper(self.side, paper(other)))

    def test_not_the_least_one(self):
        rules = PlainRules(self.side)
        for more in (("enter", "peer", "B"), ("enter", "peer", "O"), ("enter", "peer", "U"), ("end", "peer", "X", "shut", "E"),
                     ("end", "run", "X", "shut", "U"), ("end", "run", "O", "", "B"), ("stand", "run", "B", 4, "XUHEX", "H"),
                     ("stand", "run", "B", 6, "UXHOE", "B"), ("stand", "peer", "O", 1, "UUUUU", "X"),
                     ("wait", "run", "O", 3, "EXHEU", "B", "E"), ("wait", "run", "U", 3, "UUUEE", "O", "B"),
                     ("wait", "run", "O", 3, "EEEEE", "E", "H")):
            facts = closed(rules, {*self.facts, more})
            with self.subTest(more):
                right = not breaks(facts)
                self.assertEqual(is_paper(self.side, sorted(facts)), right)
                self.assertEqual(is_paper(self.side, [*self.facts, more]), right and len(facts) == len(self.facts) + 1)
                if right:
                    for fact in sorted(facts):
                        less = rules.led(facts - {fact}, facts - {fact}) | {("top", "E")}
                        self.assertEqual(is_paper(self.side, sorted(facts - {fact})), fact not in less)

    def test_a_break_is_in_none(self):
        for row in range(7):
            for reason in ("empty", "full", "stale", "lent", "kept", "out", "unnamed"):
                self.assertFalse(is_paper(self.side, [*self.facts, ("break", "run", "E", row, reason)]))

    def test_what_is_no_fact(self):
        # Facts of the forms that lead to nothing new are right.
        for fact in (("end", "peer", "B", "shut", "U"), ("end", "run", "B", "spilt", "H"), ("end", "run", "U", "", "U")):
            self.assertTrue(is_paper(self.side, [*self.facts, fact]), fact)
        for fact in (
                (), ("top",), ("top", "H"), ("top", "U"), ("top", "B"), ("top", ""), ("top", "EO"), ("top", None), ("top", "E", "E"),
                ("Top", "E"), ("stop", "E"), ("enters", "peer", "E"), ("ends", "peer", "B", "shut", "U"),
                ("stands", "run", "E", 6, "EEEOE", "E"), ("waits", "run", "E", 3, "EEEEE", "E", "E"), (None,), (0, "E"), (True, "E"), ("enter", "peer"), ("enter", "far", "E"),
                ("enter", "nobody", "E"), ("enter", "peer", "H"), ("enter", "peer", "Z"), ("enter", "peer", ""),
                ("enter", "peer", "E", "E"), ("enter", "", "E"), ("enter", None, "E"), ("enter", 0, "E"),
                ("end", "peer", "B", "shut"), ("end", "peer", "B", "barred", "U"), ("end", "peer", "B", "other", "U"),
                ("end", "peer", "B", None, "U"), ("end", "peer", "B", "shut", "Z"), ("end", "peer", "B", "shut", ""),
                ("end", "peer", "H", "shut", "U"), ("end", "far", "B", "shut", "U"), ("end", "peer", "B", "shut", "U", "U"),
                ("end", "peer", "B", "shut", "UU"), ("end", "peer", "B", 0, "U"), ("end", "peer", "B", True, "U"),
                ("end", "peer", "B", "shut", None),
                ("stand", "run", "E", 6, "EEEOE"), ("stand", "run", "E", 6, "EEEOE", "E", "E"),
                ("stand", "run", "E", 7, "EEEOE", "E"), ("stand", "run", "E", -1, "EEEOE", "E"),
                ("stand", "run", "E", True, "EEEOE", "E"), ("stand", "run", "E", "6", "EEEOE", "E"),
                ("stand", "run", "E", None, "EEEOE", "E"), ("stand", "run", "E", 10 ** 39, "EEEOE", "E"),
                ("stand", "run", "E", 6, "EEEO", "E"), ("stand", "run", "E", 6, "EEEOEE", "E"),
                ("stand", "run", "E", 6, "EEEOB", "E"), ("stand", "run", "E", 6, "EEEOZ", "E"),
                ("stand", "run", "E", 6, 5, "E"), ("stand", "run", "E", 6, None, "E"), ("stand", "run", "E", 6, "EEEOE", "Z"),
                ("stand", "run", "E", 6, "EEEOE", ""), ("stand", "run", "E", 6, "EEEOE", None),
                ("stand", "run", "H", 6, "EEEOE", "E"), ("stand", "far", "E", 6, "EEEOE", "E"),
                ("wait", "run", "E", 2, "EEEEE", "E", "E"), ("wait", "run", "E", 4, "EEEEE", "E", "E"),
                ("wait", "run", "E", 7, "EEEEE", "E", "E"), ("wait", "run", "E", 3, "EEEEE", "E"),
                ("wait", "run", "E", 3, "EEEEE", "E", "E", "E"), ("wait", "run", "E", 3, "EEEEE", "Z", "E"),
                ("wait", "run", "E", 3, "EEEEE", "E", "Z"), ("wait", "run", "E", 3, "EEEEE", "", "E"),
                ("wait", "run", "E", 3, "EEEE", "E", "E"), ("wait", "run", "E", 3, "EEEEB", "E", "E"),
                ("wait", "run", "H", 3, "EEEEE", "E", "E"), ("wait", "run", "E", True, "EEEEE", "E", "E"),
                ("wait", "peer", "E", 0, "EEEEE", "E", "E")):
            with self.subTest(fact):
                self.assertFalse(is_paper(self.side, [*self.facts, fact]))
                self.assertFalse(is_paper(self.side, [fact, *self.facts]))
                try:
                    facts = closed(PlainRules(self.side), {*self.facts, fact})
                except (KeyError, ValueError, TypeError, IndexError, AttributeError, NoHelper):
                    continue
                self.assertFalse(is_paper(self.side, sorted(facts, key=repr)))

    def test_truths_for_numbers(self):
        told = one("clear a", "done")
        facts = paper(told)
        self.assertTrue(is_paper(told, facts))
        for truth, number in ((False, 0), (True, 1)):
            wrong = [tuple(truth if part == number and part != "" else part for part in fact) for fact in facts]
            self.assertEqual(wrong, facts)
            self.assertFalse(is_paper(told, wrong))

    def test_other_kinds(self):
        for facts in (None, tuple(self.facts), "", 0, {}, [None], [7], ["top"], [["top", "E"]], [("top", ["E"])],
                      [*self.facts, ["enter", "peer", "E"]], [*self.facts, ("end", "peer", "B", ["shut"], "U")],
                      [*self.facts, ("stand", "run", "E", 6, ["E"] * 5, "E")]):
            self.assertFalse(is_paper(self.side, facts))

    def test_what_is_handed_in_stays_as_it_was(self):
        facts = list(self.facts)
        self.assertTrue(is_paper(self.side, facts))
        self.assertEqual(facts, self.facts)


class AllLetters(unittest.TestCase):
    """Facts of a side that breaks nowhere, with all letters that there are."""

    SHELVES = "EOHUXB"
    STARTS = "EOUXB"

    def check(self, told, begin, *more):
        rules = PlainRules(told)
        facts = closed(rules, {("top", begin), *more})
        self.assertEqual(breaks(facts), [])
        self.assertTrue(is_paper(told, sorted(facts), begin=begin))
        for fact in sorted(facts):
            less = facts - {fact}
            needed = fact in rules.led(less, less) or fact == ("top", begin)
            self.assertEqual(is_paper(told, sorted(less), begin=begin), not needed)

    def test_waits_on_the_other_side(self):
        told = one("call calm", "done")
        for start in self.STARTS:
            for held in self.SHELVES:
                for shelf in self.SHELVES:
                    self.check(told, "E", ("wait", "only", start, 0, "HXEUE", held, shelf))

    def test_waits_on_the_own_side(self):
        pacts = pacts_of([("only", 0, (), False, ()), ("peer", 0, (), False, ())])
        told = Side(pacts, 0, {"only": "call peer\ndone", "peer": "done"})
        for held in self.SHELVES:
            for shelf in self.SHELVES:
                self.check(told, "X", ("wait", "only", "O", 0, "HXEUE", held, shelf))
                for end in self.SHELVES:
                    self.check(told, "X", ("wait", "only", "O", 0, "EEEEE", held, shelf),
                               ("end", "peer", {"H": "U"}.get(shelf, shelf), "", end))

    def test_ends(self):
        told = one("call calm", "done")
        for start in self.STARTS:
            for shelf in self.SHELVES:
                for begin in "EOX":
                    self.check(told, begin, ("end", "only", start, "spilt", shelf))
                    self.check(told, begin, ("end", "only", start, "", shelf), ("wait", "only", "U", 0, "EEEEE", "O", start))

    def test_an_error_that_is_none_of_the_called_helpers(self):
        pacts = pacts_of([("only", 0, (), False, ("shut",)), ("peer", 0, (), False, ())])
        told = Side(pacts, 0, {"only": "call peer\ndone", "peer": "done"})
        self.check(told, "E", ("end", "peer", "E", "shut", "E"))
        facts = closed(PlainRules(told), {("top", "E"), ("end", "peer", "E", "spilt", "E")})
        self.assertEqual(breaks(facts), [("break", "only", "E", 0, "unnamed")])
        self.assertFalse(is_paper(told, sorted(set(facts) - set(breaks(facts)))))
        told = told.changed({"only": "make a\ncall peer\nclear a\ndone"})
        facts = closed(PlainRules(told), {("top", "E"), ("end", "peer", "E", "shut", "E")})
        self.assertEqual(breaks(facts), [("break", "only", "E", 1, "kept")])
        self.assertFalse(is_paper(told, sorted(set(facts) - set(breaks(facts)))))

    def test_tops(self):
        pacts = pacts_of([("fill", 0, (), False, ()), ("lend", 0, ("lent",), False, ())])
        told = Side(pacts, 0, {"fill": "take a\nclear a\nmake a\nput a\ndone", "lend": "take b\nclear b\nput a\ndone"})
        for begin in "OX":
            self.assertEqual([fact for fact in paper(told, begin=begin) if fact[0] == "top"], [("top", "O"), ("top", "X")])
        self.assertIsNone(paper(told))


class AllRules(unittest.TestCase):
    """What the package's own rules lead to, breaks and their reasons too."""

    def test_the_same_as_the_plain_ones(self):
        reasons = set()
        for seed in range(4000, 4060):
            rng = random.Random(seed)
            pacts = random_pacts(rng)
            told = random_side(rng, pacts, rng.randrange(2), mended=0)
            plain, rules = PlainRules(told), PackageRules(told)
            facts = sorted(set().union(*[plain.all_facts(begin) for begin in "EOX"]))
            for fact in facts:
                self.assertEqual(sorted(rules.from_one(fact)), sorted(plain.alone(fact)))
                reasons |= {fact[4]} if fact[0] == "break" else set()
            ends = [fact for fact in facts if fact[0] == "end"]
            for fact in facts:
                for end in ends if fact[0] in ("top", "wait") else []:
                    self.assertEqual(rules.from_two(fact, end), plain.both(fact, end))
        self.assertLessEqual({"empty", "full", "lent", "kept", "unnamed"}, reasons)


class Many(unittest.TestCase):
    def test_the_least_paper(self):
        counts = {True: 0, False: 0}
        for seed in range(2000, 2150):
            rng = random.Random(seed)
            pacts = random_pacts(rng)
            told = random_side(rng, pacts, rng.randrange(2))
            for begin in "EOX":
                facts = PlainRules(told).all_facts(begin)
                right = not breaks(facts)
                with self.subTest(seed, begin=begin):
                    self.assertEqual(paper(told, begin=begin), sorted(facts) if right else None)
                    self.assertEqual(is_paper(told, list(facts), begin=begin), right)
                counts[right] += 1
                if right:
                    facts = sorted(facts)
                    facts.pop(rng.randrange(len(facts)))
                    self.assertFalse(is_paper(told, facts, begin=begin))
        self.assertGreater(min(counts.values()), 100)

    def test_a_side_with_a_paper_never_breaks(self):
        counts = {"calls": 0, "broke": 0}
        for seed in range(3000, 3200):
            rng = random.Random(seed)
            pacts = random_pacts(rng)
            sides = [random_side(rng, pacts, number) for number in (0, 1)]
            papers = [paper(told) for told in sides]
            world = World(*sides)
            for _ in range(10):
                if not world.closed():
                    counts["calls"] += 1
                    refused = refusal(do_deed, world, random_deed(rng, pacts, world.held()))
                    self.assertIn(refused, (None, (TooLong,)))
            if world.broken():
                counts["broke"] += 1
                self.assertIsNone(papers[pacts.pact(world.broken()[2])[1]])
            for number in (0, 1):
                if papers[number]:
                    self.assertIn(("top", world.shelf(number)), papers[number])
        self.assertGreater(counts["calls"], 500)
        self.assertGreater(counts["broke"], 50)

    def test_a_great_side(self):
        # Each pocket by itself owns or not, so there are many facts.
        rows = []
        for pocket in "bcde":
            at = len(rows)
            rows += [f"pick {at + 3}", f"clear {pocket}", f"go {at + 5}", f"clear {pocket}", f"make {pocket}"]
        at = len(rows)
        rows += ["use a"] * 140 + [f"clear {pocket}" for pocket in "abcde"] + ["make a", "done a"]
        told = side("\n".join(rows))
        facts = paper(told, begin="O")
        self.assertGreater(len(facts), 2000)
        self.assertTrue(is_paper(told, facts, begin="O"))
        self.assertFalse(is_paper(told, facts[1:], begin="O"))


class Harmless(unittest.TestCase):
    def test_it_has_a_paper_for_each_letter(self):
        for number in (0, 1):
            told = side_of(PACTS, number, {name: harmless(PACTS, name) for name in PACTS.names(number)})
            for begin in "EOX":
                self.assertIsNotNone(paper(told, begin=begin))


if __name__ == "__main__":
    unittest.main()
