"""Point 12: bodies in rows, and where they are refused."""

import unittest

from making import pacts_of, side_of, wrong_at
from pactford.errors import NoBody
from pactford.side import Side

PACTS = pacts_of([
    ("giver", 0, ("lent", "given"), True, ("spilt",)),
    ("plain", 0, (), False, ("shut",)),
    ("taker", 1, ("given", "lent", "given"), True, ("full", "barred")),
    ("none", 1, (), False, ("full",)),
])
DEEP = "9" * 5000

RIGHT = [
    "make a", "make e", "use b", "use shelf", "free c", "clear d", "forget e", "move a b", "move e d", "put a",
    "take e", "pick 0", "pick 1", "go 1", "throw spilt a", "throw shut", "done c",
    "call plain", "call plain on shut 0", "call plain on shut 1", "call none on spilt b 0", "call none",
    "call giver lend a give a to a", "call giver lend shelf give e to b on spilt b 1",
    "call taker give a lend shelf give b to c on shut 1 on spilt d 0",
    "call taker give a lend b give a to a on spilt a 1 on shut 0",
]
WRONG = [
    "", " ", "make", "make f", "make shelf", "make A", "make a b", "make a ", " make a", "make  a", "MAKE a", "mak a",
    "use", "use f", "use a b", "use  a", "free shelf", "free", "clear shelf", "clear", "forget shelf", "forget a b",
    "move a a", "move a", "move a b c", "move a shelf", "move shelf a", "move a f", "move f a", "put shelf", "put",
    "take shelf", "take", "take a a", "pick", "pick 2", "pick 00", "pick 01", "pick -1", "pick +1", "pick a", "pick 1 1",
    "pick " + DEEP, "pick 1 ", "pick 0x1", "pick 1_0", "go 0", "go 2", "go", "go 01", "go a", "go 1 1",
    "throw", "throw spilt", "throw shut a", "throw full a", "throw barred", "throw spilt shelf", "throw spilt a b",
    "throw spilt  a", "throw Spilt a", "throw other", "done", "done shelf", "done a b", "done f", "Done a", "stop",
    "call", "call other", "shout plain", "Call plain", "calls plain", "call plain on", "call plain on shut", "call plain on shut 2", "call plain on shut 00",
    "call plain on shut a 0", "call plain on spilt a 0", "call plain on barred 0", "call plain on shut 0 on shut 1",
    "call plain to a", "call plain lend a", "call plain on shut 0 0", "call plain on shut 0 on", "call plain  on shut 0",
    "call plain at shut 0", "call none on full b 0", "call none on spilt 0", "call none on spilt shelf 0",
    "call none on spilt f 0", "call none on shut 0", "call none on spilt b 0 on spilt c 1", "call none on spilt b",
    "call giver lend a give a", "call giver lend a give a to", "call giver lend a give a to shelf",
    "call giver lend a give a to f", "call giver give a lend a to a", "call giver lend a lend b to a",
    "call giver lend a give shelf to a", "call giver lend f give a to a", "call giver lend a to a",
    "call giver lend a give a give b to a", "call giver lend a give a on spilt b 1 to a", "call giver lend a give a at a",
    "call giver lend a give a to a to b", "call giver lend a give", "call giver lend a", "call giver lend", "call giver",
    "call  giver lend a give a to a", "call giver lend a give a to a ", "call giver lend a give a to  a",
]


class OneRow(unittest.TestCase):
    def test_right_rows(self):
        for row in RIGHT:
            with self.subTest(row):
                self.assertIsNone(wrong_at(PACTS, "giver", row + "\ndone a"))

    def test_wrong_rows(self):
        for row in WRONG:
            with self.subTest(row):
                self.assertEqual(wrong_at(PACTS, "giver", row + "\ndone a"), 0)

    def test_the_number_of_the_wrong_row(self):
        for ahead in (0, 1, 7, 150):
            self.assertEqual(wrong_at(PACTS, "giver", "use a\n" * ahead + "use f\ndone a"), ahead)

    def test_done_by_the_pact(self):
        self.assertIsNone(wrong_at(PACTS, "plain", "done"))
        self.assertEqual(wrong_at(PACTS, "plain", "done a"), 0)
        self.assertIsNone(wrong_at(PACTS, "giver", "done a"))
        self.assertEqual(wrong_at(PACTS, "giver", "done"), 0)

    def test_words_of_the_own_side(self):
        self.assertIsNone(wrong_at(PACTS, "none", "throw full a"))
        self.assertIsNone(wrong_at(PACTS, "none", "throw barred"))
        self.assertEqual(wrong_at(PACTS, "none", "throw spilt a"), 0)
        self.assertIsNone(wrong_at(PACTS, "none", "call giver lend a give b to c on full d 0\ndone"))
        self.assertEqual(wrong_at(PACTS, "none", "call giver lend a give b to c on spilt d 0\ndone"), 0)
        self.assertIsNone(wrong_at(PACTS, "none", "call none on full d 0\ndone"))

    def test_figures(self):
        rows = ["use a"] * 20 + ["done a"]
        for number, right in (("20", True), ("10", True), ("0", True), ("21", False), ("020", False), ("2", True), ("02", False), ("00", False)):
            with self.subTest(number):
                text = "\n".join([f"pick {number}", *rows[1:]])
                self.assertEqual(wrong_at(PACTS, "giver", text), None if right else 0)

    def test_a_go_leads_ahead_only(self):
        for number, right in ((2, False), (1, False), (0, False), (3, True), (4, True), (5, False)):
            with self.subTest(number):
                self.assertEqual(wrong_at(PACTS, "giver", f"use a\nuse a\ngo {number}\nuse a\ndone a"),
                                 None if right else 2)


class WholeTexts(unittest.TestCase):
    def test_one_row(self):
        self.assertIsNone(wrong_at(PACTS, "giver", "done a"))
        self.assertIsNone(wrong_at(PACTS, "giver", "throw spilt a"))
        self.assertEqual(wrong_at(PACTS, "giver", "make a"), 0)

    def test_no_signs(self):
        self.assertEqual(wrong_at(PACTS, "plain", ""), 0)

    def test_line_feeds_too_many(self):
        self.assertEqual(wrong_at(PACTS, "plain", "\ndone"), 0)
        self.assertEqual(wrong_at(PACTS, "plain", "done\n"), 1)
        self.assertEqual(wrong_at(PACTS, "plain", "use a\n\ndone"), 1)

    def test_the_last_row(self):
        for row in ("use a", "pick 0", "call plain", "clear b", "go 2"):
            with self.subTest(row):
                self.assertEqual(wrong_at(PACTS, "giver", "use a\n" + row), 1)

    def test_the_first_wrong_row_comes(self):
        self.assertEqual(wrong_at(PACTS, "giver", "use a\nuse f\nuse g\nuse a"), 1)
        self.assertEqual(wrong_at(PACTS, "giver", "done\nuse a"), 0)

    def test_ends_may_stand_ahead(self):
        self.assertIsNone(wrong_at(PACTS, "giver", "done a\nthrow shut\nuse a\ndone a"))

    def test_two_hundred_rows_and_one_more(self):
        self.assertIsNone(wrong_at(PACTS, "giver", "\n".join(["use a"] * 199 + ["done a"])))
        self.assertEqual(wrong_at(PACTS, "giver", "\n".join(["use a"] * 200)), 199)
        for rows in (["use a"] * 200 + ["done a"], ["use a"] * 300, ["done a"] * 201, ["pick 250"] * 299 + ["done a"]):
            self.assertEqual(wrong_at(PACTS, "giver", "\n".join(rows)), 200)
        self.assertEqual(wrong_at(PACTS, "giver", "\n".join(["use a"] * 150 + ["use f"] + ["use a"] * 150)), 150)
        self.assertEqual(wrong_at(PACTS, "giver", "\n".join(["use a"] * 199 + ["use f", "done a"])), 199)
        self.assertEqual(wrong_at(PACTS, "giver", "\n" * 19999), 0)

    def test_the_error(self):
        with self.assertRaises(NoBody) as caught:
            side_of(PACTS, 0, {"giver": "done a", "plain": "use a\nuse"})
        self.assertEqual((caught.exception.name, caught.exception.at), ("plain", 1))

    def test_the_first_helper_by_the_pacts_comes(self):
        for bodies, name in (({"giver": "use", "plain": "use"}, "giver"), ({"plain": "use", "giver": "use"}, "giver"),
                             ({"plain": "use", "giver": "done a"}, "plain")):
            with self.assertRaises(NoBody) as caught:
                Side(PACTS, 0, bodies)
            self.assertEqual(caught.exception.name, name)
        turned = pacts_of([("plain", 0, (), False, ()), ("giver", 0, (), True, ())])
        with self.assertRaises(NoBody) as caught:
            Side(turned, 0, {"giver": "use", "plain": "use"})
        self.assertEqual(caught.exception.name, "plain")


if __name__ == "__main__":
    unittest.main()
