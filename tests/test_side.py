"""Points 19 to 21: sides."""

import unittest

from making import PAIRS, harmless, pacts_of, refusal
from pactford.errors import NoBody, NoHelper, NoRow
from pactford.pacts import Pacts
from pactford.side import Side

HELPERS = [
    ("pour", 0, ("lent", "given"), True, ("spilt",)),
    ("fill", 0, (), False, ("shut",)),
    ("tap", 1, (), True, ("full", "barred")),
    ("cup", 1, ("given",), False, ()),
]
PACTS = pacts_of(HELPERS)
BODIES = {"pour": "free b\nmake c\ndone c",
          "fill": "() (make x) (call tap () to y (on spilt x ((use x)))) (again ((pick ((free x)) ((done))))) (throw shut)"}
FAR = {"tap": "make a\ndone a", "cup": "(x) (done)"}


def near():
    return Side(PACTS, 0, BODIES)


class Made(unittest.TestCase):
    def test_names(self):
        for bodies, name in (({}, "fill"), ({"pour": BODIES["pour"]}, "fill"), ({"fill": BODIES["fill"]}, "pour"),
                             ({**BODIES, "tap": FAR["tap"]}, "tap"), ({**BODIES, "nobody": "done"}, "nobody"),
                             ({**BODIES, "a": "", "zz": ""}, "a"), ({"pour": "", "zz": ""}, "fill"),
                             ({"fill": "", "zz": ""}, "pour"), ({"zz": "", "a": ""}, "a"), ({**BODIES, "": "done"}, ""),
                             ({**BODIES, "Fill": "done"}, "Fill")):
            with self.subTest(name, bodies=bodies):
                self.assertEqual(refusal(Side, PACTS, 0, bodies), (NoHelper, name))

    def test_no_helper_comes_ahead_of_no_body(self):
        self.assertEqual(refusal(Side, PACTS, 0, {"fill": "stop"}), (NoHelper, "pour"))
        self.assertEqual(refusal(Side, PACTS, 0, {**BODIES, "fill": "stop", "zz": ""}), (NoHelper, "zz"))

    def test_no_body_in_the_order_of_the_pacts(self):
        self.assertEqual(refusal(Side, PACTS, 0, {"fill": "stop", "pour": "use a\nstop"}), (NoBody, "pour", 1))
        self.assertEqual(refusal(Side, PACTS, 0, {"fill": "(", "pour": BODIES["pour"]}), (NoBody, "fill", -1))

    def test_which_bodies_are_said(self):
        self.assertEqual(refusal(Side, PACTS, 1, {**FAR, "cup": " (x) (done)"}), (NoBody, "cup", 0))
        self.assertEqual(refusal(Side, PACTS, 1, {**FAR, "cup": "(x) (stop)"}), (NoBody, "cup", 0))
        self.assertEqual(refusal(Side, PACTS, 1, {**FAR, "cup": "(x)\n(done)"}), (NoBody, "cup", -1))
        self.assertIsNone(refusal(Side, PACTS, 1, FAR))

    def test_a_side_without_helpers(self):
        pacts = Pacts(PAIRS, HELPERS[2:])
        side = Side(pacts, 0, {})
        self.assertEqual(side.number(), 0)
        self.assertEqual(refusal(side.body, "tap"), (NoHelper, "tap"))
        self.assertEqual(refusal(Side, pacts, 0, {"tap": "done"}), (NoHelper, "tap"))

    def test_by_names(self):
        self.assertEqual(Side(bodies=FAR, number=1, pacts=PACTS), Side(PACTS, 1, FAR))

    def test_bodies_changed_behind_it(self):
        bodies = dict(BODIES)
        side = Side(PACTS, 0, bodies)
        self.assertEqual(bodies, BODIES)
        bodies["fill"] = "done"
        del bodies["pour"]
        self.assertEqual(side, near())
        self.assertEqual((side.body("fill"), side.body("pour")), (BODIES["fill"], BODIES["pour"]))


class Told(unittest.TestCase):
    def test_pacts_number_body(self):
        self.assertEqual(near().pacts(), PACTS)
        self.assertEqual((near().number(), Side(PACTS, 1, FAR).number()), (0, 1))
        self.assertEqual(near().body("fill"), BODIES["fill"])
        self.assertEqual(near().body(name="pour"), BODIES["pour"])

    def test_no_helper(self):
        for name in ("tap", "nobody", "", "Pour"):
            self.assertEqual(refusal(near().body, name), (NoHelper, name))
            self.assertEqual(refusal(near().rows, name), (NoHelper, name))
            self.assertEqual(refusal(near().place, name, 0), (NoHelper, name))
            self.assertEqual(refusal(near().place, name, 9999), (NoHelper, name))

    def test_rows_of_rows(self):
        self.assertEqual(near().rows("pour"), ["free b", "make c", "done c"])
        self.assertEqual([near().place("pour", row) for row in range(3)], [0, 1, 2])

    def test_no_row(self):
        for row in (3, -1, 10 ** 39, -10 ** 39, True, False):
            self.assertEqual(refusal(near().place, "pour", row), (NoRow, row))
        count = len(near().rows("fill"))
        self.assertEqual(refusal(near().place, "fill", count), (NoRow, count))
        self.assertIsNone(refusal(near().place, name="fill", row=count - 1))

    def test_rows_told_are_the_askers_own(self):
        side = near()
        for name in ("pour", "fill"):
            rows = side.rows(name)
            ahead = list(rows)
            rows.append("stop")
            rows[0] = "stop"
            self.assertEqual(side.rows(name), ahead)

    def test_equal(self):
        self.assertTrue(near() == near())
        self.assertFalse(near() != near())
        other = near().changed({"pour": BODIES["pour"].replace("c", "d")})
        for thing in (other, Side(PACTS, 1, FAR), Side(pacts_of(HELPERS[::-1]), 0, BODIES), BODIES, None, 0, PACTS):
            self.assertFalse(near() == thing)
            self.assertTrue(near() != thing)
        self.assertEqual(near(), Side(pacts_of(HELPERS), 0, dict(reversed(BODIES.items()))))

    def test_sides_that_differ_in_their_number_alone(self):
        pacts = pacts_of([])
        self.assertNotEqual(Side(pacts, 0, {}), Side(pacts, 1, {}))


class SaidRows(unittest.TestCase):
    """The rows into which said bodies are turned."""

    def side(self, text, pact=((), False, ("shut",))):
        pacts = pacts_of([("fill", 0, *pact), *HELPERS[2:]])
        return Side(pacts, 0, {"fill": text})

    def test_the_last_row_and_gos(self):
        for text in (BODIES["fill"], "() (again ()) (pick () ()) (call tap () to x) (done)",
                     "() (again ((again ((done))))) (pick ((throw shut)) ((pick () ()))) (throw shut)"):
            side = self.side(text)
            rows = [row.split(" ") for row in side.rows("fill")]
            self.assertIn(rows[-1][0], ("done", "throw"))
            for at, words in enumerate(rows):
                if words[0] == "go":
                    self.assertGreater(int(words[1]), at)
                    self.assertIn(self.word_at(text, side.place("fill", at)), ("pick", "again", "call"))
            self.assertIsNone(refusal(Side, side.pacts(), 0, {"fill": "\n".join(side.rows("fill"))}))

    def word_at(self, text, number):
        words = [part.split(" ")[0].strip("()") for part in text.split("(")[2:]]
        return [word for word in words if word in "make use free put take pick again throw done call".split() and word][number]

    def test_rows_without_lists_and_calls_are_few_and_have_no_go(self):
        text = "() " + "(make x) (take y) (use x) (free x) (put y) " * 11 + "(make z) (make z) (make w) (make x) (throw shut)"
        side = self.side(text)
        self.assertLessEqual(len(side.rows("fill")), 200)
        self.assertFalse([row for row in side.rows("fill") if row.startswith(("go", "pick", "call"))])

    def test_never_more_than_four_thousand(self):
        pacts = pacts_of([("fill", 0, (), False, ()), *[(name, 1, ("lent",) * 3, True, ("a", "b", "c", "d")) for name in
                                                        ("one", "two", "three", "four")]],
                         [(word, word, True) for word in "abcd"])
        text = "(call four (x y z) to w (on a x ({})) (on b y ()) (on c z ()))"
        body = "() " + "(call one (x y z) to w) " * 29 + (text.format("") + " ") * 30 + "(done)"
        side = Side(pacts, 0, {"fill": body})
        self.assertLessEqual(len(side.rows("fill")), 4000)

    def test_places_are_statements(self):
        side = near()
        rows = side.rows("fill")
        places = [side.place("fill", at) for at in range(len(rows))]
        self.assertEqual(sorted(set(places)), [0, 1, 2, 3, 4, 5, 6, 7])
        words = {"make": 0, "call": 1, "use": 2, "free": 5, "done": 6, "throw": 1}
        for at, row in enumerate(rows):
            word = row.split(" ")[0]
            if word in ("make", "call", "use", "free", "done"):
                self.assertEqual(places[at], words[word], row)
            if word == "pick":
                self.assertIn(places[at], (3, 4))
        self.assertEqual([places[at] for at, row in enumerate(rows) if row.startswith("throw")], [1, 7])

    def test_places_of_clearings_and_of_what_comes_back(self):
        side = self.side("() (make x) (call tap () to y (on shut ())) (take x) (done)", ((), False, ("spilt", "shut")))
        rows = side.rows("fill")
        places = [side.place("fill", at) for at in range(len(rows))]
        self.assertEqual(places, sorted(places))
        self.assertEqual(rows[:2], ["clear a", "make a"])
        self.assertEqual(places[:3], [0, 0, 1])
        self.assertEqual(rows[-5:], ["clear a", "take a", "clear a", "clear b", "done"])
        self.assertEqual(places[-6:], [1, 2, 2, 3, 3, 3])
        self.assertIn("throw spilt e", rows)
        self.assertIn("move e b", rows)

    def test_places_of_gos(self):
        side = self.side("() (pick () ((again ()))) (done)")
        told = [(row.split(" ")[0], side.place("fill", at)) for at, row in enumerate(side.rows("fill"))]
        self.assertEqual(sorted(told), [("done", 2), ("go", 0), ("go", 1), ("pick", 0), ("pick", 1)])

    def test_equal_sides_tell_the_same(self):
        self.assertEqual(near().rows("fill"), near().rows("fill"))
        self.assertEqual(near().changed({}).rows("fill"), near().rows("fill"))


class Changed(unittest.TestCase):
    def test_a_new_side_beside_the_elder_one(self):
        side = near()
        other = side.changed({"fill": "use a\ndone"})
        self.assertEqual(side, near())
        self.assertEqual(side.body("fill"), BODIES["fill"])
        self.assertEqual(other.body("fill"), "use a\ndone")
        self.assertEqual(other.rows("fill"), ["use a", "done"])
        self.assertEqual((other.body("pour"), other.number()), (BODIES["pour"], 0))
        self.assertEqual(other, Side(PACTS, 0, {**BODIES, "fill": "use a\ndone"}))
        self.assertNotEqual(other, side)
        self.assertEqual(other.changed(bodies={"fill": BODIES["fill"]}), side)

    def test_none_changed(self):
        self.assertEqual(near().changed({}), near())

    def test_more_at_once(self):
        bodies = {name: harmless(PACTS, name) for name in ("pour", "fill")}
        self.assertEqual(near().changed(bodies), Side(PACTS, 0, bodies))

    def test_refused(self):
        for bodies, told in (({"tap": "done"}, (NoHelper, "tap")), ({"zz": "", "nobody": ""}, (NoHelper, "nobody")),
                             ({"fill": "stop", "zz": ""}, (NoHelper, "zz")), ({"fill": "stop"}, (NoBody, "fill", 0)),
                             ({"fill": "stop", "pour": "use a"}, (NoBody, "pour", 0)), ({"fill": "() "}, (NoBody, "fill", -1))):
            with self.subTest(told):
                side = near()
                self.assertEqual(refusal(side.changed, bodies), told)
                self.assertEqual(side, near())

    def test_bodies_changed_behind_it(self):
        bodies = {"fill": "done"}
        side = near().changed(bodies)
        bodies["fill"] = "stop"
        bodies["pour"] = "stop"
        self.assertEqual(side.body("fill"), "done")
        self.assertEqual(side.body("pour"), BODIES["pour"])


if __name__ == "__main__":
    unittest.main()
