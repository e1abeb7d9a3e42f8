"""Points 16 to 18: said bodies, where they are refused, and what they do."""

import unittest

from making import harmless, pacts_of, world_of, wrong_at
from pactford.side import Side

HELPERS = [
    ("giver", 0, ("lent", "given"), True, ("spilt",)),
    ("plain", 0, (), False, ("shut",)),
    ("taker", 1, ("given", "lent"), True, ("full", "barred")),
    ("none", 1, (), False, ("full",)),
]
PACTS = pacts_of(HELPERS)

RIGHT = [
    "(make x)", "(use x)", "(use shelf)", "(free x)", "(put x)", "(take x)", "(make to)", "(make done)", "(make abcdefgh)",
    "(pick () ())", "(pick ((make x)) ())", "(pick () ((make x) (free y)))", "(again ())", "(again ((again ())))",
    "(throw spilt x)", "(throw shut)", "(done x)", "(pick ((done x)) ((throw shut)))", "(again ((done x) (make x)))",
    "(call plain ())", "(call plain () (on shut ()))", "(call plain () (on shut ((make x) (free x))))",
    "(call none ())", "(call none () (on spilt x ()))", "(call none () (on spilt x ((free x))))",
    "(call giver (x y) to x)", "(call giver (shelf x) to y)", "(call giver (x x) to x (on spilt x ()))",
    "(call taker (x shelf) to z (on shut ()) (on spilt z ()))", "(call taker (x y) to z (on spilt z ()) (on shut ()))",
]
WRONG = [
    "()", "(())", "((make x))", "(stop)", "(make)", "(make x y)", "(make X)", "(make shelf)", "(make (x))", "(make x1)",
    "(make abcdefghi)", "(use)", "(use x y)", "(use (shelf))", "(use e1)", "(free shelf)", "(free)", "(put shelf)",
    "(take shelf)", "(put)", "(take x y)", "(clear x)", "(move x y)", "(go 1)", "(forget x)", "(Make x)",
    "(pick)", "(pick ())", "(pick () () ())", "(pick x ())", "(pick () x)", "(pick (x) ())", "(pick () (x))",
    "(pick ((make x) y) ())", "(pick () (y (make x)))", "(pick (make x) ())", "(again)", "(again x)", "(again () ())",
    "(again (make x))", "(again (x))", "(throw)", "(throw spilt)", "(throw spilt shelf)", "(throw spilt x y)",
    "(throw shut x)", "(throw full x)", "(throw barred)", "(throw (spilt) x)", "(throw spilt (x))", "(throw ())",
    "(done)", "(done x y)", "(done shelf)", "(done (x))", "(call)", "(call plain)", "(call (plain) ())",
    "(call other ())", "(call plain x)", "(call plain (x))", "(call plain () to x)", "(call plain () x)",
    "(call plain () ())", "(call plain () (on))", "(call plain () (on shut))", "(call plain () (on shut x))",
    "(call plain () (on shut x ()))", "(call plain () (on shut () ()))", "(call plain () (on shut (x)))",
    "(call plain () (on shut ()) (on shut ()))", "(call plain () (on spilt x ()))", "(call plain () (on barred ()))",
    "(call plain () (at shut ()))", "(call plain () (on (shut) ()))", "(call plain () on shut ())",
    "(call none () (on spilt ()))", "(call none () (on spilt x))", "(call none () (on spilt shelf ()))",
    "(call none () (on spilt (x) ()))", "(call none () (on spilt x (y)))", "(call none () (on spilt x y ()))",
    "(call none () (on full x ()))", "(call none () (on spilt x ()) (on spilt y ()))", "(call none () (on spilt x () ()))",
    "(call giver (x y))", "(call giver (x y) to)", "(call giver (x y) to shelf)", "(call giver (x y) to (x))",
    "(call giver (x y) at x)", "(call giver (x y) x)", "(call giver (x y) (to x))", "(call giver () to x)",
    "(call giver (x) to x)", "(call giver (x y z) to x)", "(call giver x y to x)", "(call giver xy to x)", "(call giver (x shelf) to x)",
    "(call giver (x (y)) to x)", "(call giver (X y) to x)", "(call taker (shelf x) to x)",
    "(call giver (x y) (on spilt x ()) to x)", "(call giver (x y) to x (on spilt x ()) to y)",
]
FIRST = "(x y) "
LAST = " (done x)"


class Forms(unittest.TestCase):
    def check(self, statements, at, first=FIRST, last=LAST):
        with self.subTest(statements):
            self.assertEqual(wrong_at(PACTS, "giver", first + statements + last), at)

    def test_right_statements(self):
        for statement in RIGHT:
            self.check(statement, None)

    def test_wrong_statements(self):
        for statement in WRONG:
            self.check(statement, 0)
            self.check("(pick ((make x)) ((use x))) (call plain () (on shut ((make x)))) " + statement, 5)
            self.check(f"(again ({statement}))", 1)

    def test_texts_that_are_no_lists(self):
        for text in ("(", "()", "( x y) (done x)", "(x y ) (done x)", "(x  y) (done x)", "(x y)(done x)", "(x y)  (done x)",
                     "(x y) (done x) ", "(x y) (done x))", "(x y) (done x", "(x y) done", "(x y)\n(done x)", "(x y) (done\nx)",
                     "(x y) (done x)\n", "(x y) (done x) x", "(x y) x (done x)", "(x y) (make x)x (done x)", "((x) y) (done x)",
                     "(x y) (pick ()()) (done x)", "(x y) (pick() ()) (done x)", "(x y) (pick () ()) (done x", "(x y)) (done x",
                     "(x\ny) (done x)", "(x y) (done x) )", "(x y) (done x) (again ()", "(x y) (again ((done x))", "(x y) (pick ()x ()) (done x)", "(x y) (done  x)", "(x y) (done x) (", "(" * 20000,
                     "(" * 9000 + ")" * 9000 + "x"):
            self.check(text, -1, "", "")

    def test_the_first_list(self):
        for first in ("()", "(x)", "(x y z)", "(x x)", "(x shelf)", "(shelf x)", "(x Y)", "(x (y))", "((x y))", "(x y1)",
                      "(x abcdefghi)", "(x y-)", "(make x)", "(done x)", "(" + "x " * 5000 + "x)", "(" * 9000 + ")" * 9000):
            right = first in ("(make x)", "(done x)")
            self.check("(done x)", None if right else -1, first + " ", "")
        self.check("", -1, "(x shelf)", "")

    def test_the_first_list_of_none(self):
        self.assertIsNone(wrong_at(PACTS, "plain", "() (done)"))
        self.assertEqual(wrong_at(PACTS, "plain", "(x) (done)"), -1)
        self.assertEqual(wrong_at(PACTS, "plain", "(done)"), -1)
        self.assertEqual(wrong_at(PACTS, "plain", "() (done x)"), 0)

    def test_a_list_of_names_alone(self):
        self.check("(x y)", 0, "", "")
        self.assertEqual(wrong_at(PACTS, "plain", "()"), 0)

    def test_deep_lists_where_words_belong(self):
        deep = "(" * 9000 + ")" * 9000
        for statement in ("(make {})", "({})", "(throw {})", "(call {} ())", "(call plain {})", "(call plain () {})",
                          "(pick {} x)", "(call plain () (on {} ()))", "(call none () (on spilt {} ()))", "(again {} x)"):
            self.check(statement.format(deep), 0)

    def test_words_of_the_own_side(self):
        text = "() {} (done)"
        self.assertIsNone(wrong_at(PACTS, "none", text.format("(throw full x)")))
        self.assertEqual(wrong_at(PACTS, "none", text.format("(throw spilt x)")), 0)
        self.assertIsNone(wrong_at(PACTS, "none", text.format("(call giver (x y) to z (on full x ()))")))
        self.assertEqual(wrong_at(PACTS, "none", text.format("(call giver (x y) to z (on spilt x ()))")), 0)

    def test_the_last_statement(self):
        for last in ("(make x)", "(pick ((done x)) ((done x)))", "(again ((done x)))", "(call plain ())", "(stop)", "()"):
            self.check("(use x) " + last, 1, last="")
        self.check("(pick ((stop)) ()) (use x)", 1, last="")
        self.check("(make x) (pick ((stop)) ())", 1, last="")
        self.check("(use x) (throw spilt x)", None, last="")
        self.check("(done x) (use x)", None)


class Counts(unittest.TestCase):
    def at(self, text):
        return wrong_at(PACTS, "plain", "() " + text)

    def test_sixty_statements_and_one_more(self):
        self.assertIsNone(self.at("(use shelf) " * 59 + "(done)"))
        self.assertEqual(self.at("(use shelf) " * 60 + "(done)"), 60)
        self.assertEqual(self.at("(use shelf) " * 80 + "(done)"), 60)
        self.assertIsNone(self.at("(again (" + " ".join(["(use shelf)"] * 58) + ")) (done)"))
        self.assertEqual(self.at("(again (" + " ".join(["(use shelf)"] * 59) + ")) (done)"), 60)
        self.assertEqual(self.at("(again (" + " ".join(["(use shelf)"] * 60) + ")) (done)"), 60)
        self.assertEqual(self.at("(use shelf) " * 70 + "(stop)"), 60)
        self.assertEqual(self.at("(use shelf) " * 70), -1)
        self.assertEqual(self.at("(use shelf) " * 59 + "(stop)"), 59)
        self.assertEqual(self.at("(use shelf) " * 59 + "(use shelf)"), 59)

    def test_six_within_one_another_and_seven(self):
        for outer in ("(again ({}))", "(pick ({}) ())", "(pick () ({}))", "(call plain () (on shut ({})))"):
            for depth in (5, 6):
                text = "(use shelf)"
                for _ in range(depth):
                    text = outer.format(text)
                self.assertEqual(self.at(text + " (done)"), None if depth == 5 else 6)

    def test_four_unlike_names_and_five(self):
        makes = "(make a) (make b) (make a) (make c) (make d) "
        self.assertIsNone(self.at(makes + "(make d) (use shelf) (done)"))
        self.assertEqual(self.at(makes + "(make d) (make e) (done)"), 6)
        self.assertEqual(wrong_at(PACTS, "giver", "(x y) (make a) (make b) (make x) (make c) (done x)"), 3)
        self.assertEqual(wrong_at(PACTS, "giver", "(x y) (make a) (make b) (done c)"), 2)
        self.assertEqual(self.at("(call taker (a b) to c (on spilt d ())) (make a) (make e) (done)"), 2)
        self.assertEqual(self.at("(call taker (a b) to c (on spilt d ((make e)))) (done)"), 1)
        # The arm's name is its call's, so the fifth name is that of the statement in the arm.
        self.assertEqual(self.at("(make a) (call taker (b c) to d (on shut ((make e))) (on spilt d ())) (done)"), 2)
        self.assertEqual(self.at("(make a) (call taker (b c) to d (on shut ((make a))) (on spilt e ())) (done)"), 1)

    def test_the_first_wrong_one_whatever_is_within_it(self):
        self.assertEqual(self.at("(again ((make x) (stop))) (again x) (done)"), 2)
        self.assertEqual(self.at("(again ((stop)) ()) (done)"), 0)
        self.assertEqual(self.at("(call plain () (on shut ((stop))) (on shut ())) (done)"), 0)
        self.assertEqual(self.at("(pick ((use shelf) (use shelf)) ((use shelf) (stop))) (done)"), 4)
        self.assertEqual(self.at("(call plain () (on shut ((pick () ((make x) (stop)))))) (done)"), 3)


def run(text, helpers=(), bodies=(), name="run", picks=(), pact=((), False, ("spilt", "shut"))):
    """What a call of a said body tells, its world and the story behind the entering."""
    world = world_of([("run", 0, *pact), *helpers], {"run": text, **dict(bodies)})
    told = world.call(name, picks=list(picks))
    story = world.story()
    return told, world, story[[entry[0] for entry in story].index("entered") + 1:]


class Doing(unittest.TestCase):
    FAR = [("brings", 1, (), True, ("full", "barred")), ("eats", 1, ("given",), False, ("full",)),
           ("uses", 1, ("lent",), False, ("barred",))]
    BODIES = {"brings": "make a\npick 3\ndone a\nthrow full a", "eats": "pick 3\nfree a\ndone\nthrow full a",
              "uses": "pick 3\nuse a\ndone\nthrow barred"}

    def story(self, text, picks=(), told=("done", "", None), **named):
        outcome, _, story = run(text, self.FAR, self.BODIES, picks=picks, **named)
        self.assertEqual(outcome, told)
        return story

    def broken(self, text, picks=(), **named):
        outcome, world, _ = run(text, self.FAR, self.BODIES, picks=picks, **named)
        self.assertEqual(outcome[0], "broke")
        return world.broken()

    def test_make_clears_ahead(self):
        self.assertEqual(self.story("() (make x) (make x) (done)"),
                         [("made", 1, 0), ("freed", 1, 0), ("made", 1, 1), ("freed", 1, 1), ("ended", 1, "", None)])

    def test_take_clears_ahead(self):
        self.assertEqual(self.story("() (make x) (put x) (make y) (take y) (use y) (done)"),
                         [("made", 1, 0), ("made", 1, 1), ("freed", 1, 1), ("used", 1, 0), ("freed", 1, 0),
                          ("ended", 1, "", None)])
        self.assertEqual(self.broken("() (make x) (take x) (done)"), ("empty", 1, "run", 1, None))
        _, world, story = run("() (make x) (take x) (done)")
        self.assertEqual(story, [("made", 1, 0), ("freed", 1, 0), ("broke", 1, "empty")])

    def test_use_free_put(self):
        self.assertEqual(self.story("() (make x) (use x) (free x) (make x) (put x) (use shelf) (done)"),
                         [("made", 1, 0), ("used", 1, 0), ("freed", 1, 0), ("made", 1, 1), ("used", 1, 1),
                          ("ended", 1, "", None)])
        self.assertEqual(self.broken("() (use x) (done)"), ("empty", 1, "run", 0, None))
        self.assertEqual(self.broken("() (use shelf) (done)"), ("empty", 1, "run", 0, None))
        self.assertEqual(self.broken("() (free x) (done)"), ("empty", 1, "run", 0, None))
        self.assertEqual(self.broken("() (make x) (put x) (make x) (put x) (done)"), ("full", 1, "run", 3, None))

    def test_pick(self):
        text = "() (pick ((make x)) ((make x) (make y))) (done)"
        for picks, made in (((), 2), ((0,), 2), ((1,), 1), ((7,), 1)):
            self.assertEqual(len([entry for entry in self.story(text, picks) if entry[0] == "made"]), made)
        self.assertEqual(self.story("() (pick () ()) (done)", [1]), [("ended", 1, "", None)])

    def test_again(self):
        text = "() (again ((make x))) (make y) (done)"
        for picks, made in (((), 1), ((0, 1), 1), ((1,), 2), ((1, 5, 0, 1), 3)):
            self.assertEqual(len([entry for entry in self.story(text, picks) if entry[0] == "made"]), made)
        self.assertEqual(self.story("() (again ()) (pick () ((make x))) (done)", [1, 1, 0, 1]), [("ended", 1, "", None)])
        self.assertEqual(len(self.story("() (again ((again ((make x))) (make y))) (done)", [1, 1, 1, 0, 1, 0])), 9)

    def test_ends_within_lists(self):
        self.assertEqual(self.story("() (again ((pick ((done)) ((throw shut))))) (make x) (done)", [1, 1]),
                         [("ended", 1, "", None)])
        self.assertEqual(self.story("() (again ((pick ((done)) ((throw shut))))) (make x) (done)", [1, 0],
                                    told=("threw", "shut", None)), [("ended", 1, "shut", None), ("caught", 0, "shut", None)])

    def test_ends_clear_all_other_names_in_their_order(self):
        pact = (("given", "given"), True, ("spilt", "shut"))
        for end, kept in (("(done x)", 2), ("(throw spilt x)", 2), ("(done v)", 1), ("(done w)", 0), ("(throw shut)", None)):
            ends = end.split(" ")
            told = ("done", "", kept) if ends[0] == "(done" else ("threw", ends[1].strip(")"), kept)
            story = self.story(f"(w v) (make x) (make u) {end} (done x)", told=told, pact=pact)
            self.assertEqual([entry[2] for entry in story if entry[0] == "freed"],
                             [one for one in (0, 1, 2, 3) if one != kept])

    def test_names_not_met_yet_are_cleared_too(self):
        # y comes to pocket b, though it first stands behind the end that clears it.
        self.assertEqual(self.story("() (again ((pick ((throw shut)) ((make x) (make y))))) (done)", [1, 0, 1, 1],
                                    told=("threw", "shut", None))[2:4], [("freed", 1, 0), ("freed", 1, 1)])

    def test_looks_of_the_ends(self):
        pact = (("lent",), True, ("spilt",))
        self.assertEqual(self.broken("(x) (make y) (done x)", pact=pact), ("lent", 1, "run", 1, (0, 0)))
        self.assertEqual(self.broken("(x) (make y) (throw shut) (done x)", pact=pact), ("unnamed", 1, "run", 1, None))
        self.assertEqual(self.broken("(x) (done y)", pact=pact), ("empty", 1, "run", 0, None))
        _, world, story = run("(x) (make y) (done x)", pact=pact)
        self.assertEqual(story[1:], [("made", 1, 1), ("freed", 1, 1), ("broke", 1, "lent"), ("freed", 0, 0)])

    def test_the_order_of_the_names(self):
        helpers = [*self.FAR, ("mixes", 1, ("lent", "given"), True, ())]
        made = " (make q) (make b) (make z) (done)"
        for text, freed in (
                ("() (make q) (make z) (make b) (done)", [0, 1, 2]),
                # q, z, b, though the first list is not run.
                ("() (pick ((make q)) ((make z))) (make b) (make z) (make q) (done)", [0, 3, 2, 1]),
                ("() (pick ((call eats (z) (on spilt b ((make q))))) ())" + made, [2, 1, 0]),
                # The name of the second arm is a word of the call, so ahead of the statement in the first one.
                ("() (pick ((call brings () to z (on shut ((make q))) (on spilt b ()))) ())" + made, [2, 1, 0]),
                ("() (pick ((call mixes (z b) to q)) ())" + made, [2, 1, 0]),
                ("() (pick ((call mixes (b z) to q)) ())" + made, [1, 2, 0])):
            with self.subTest(text):
                _, _, story = run(text, helpers, {**self.BODIES, "mixes": "done b"})
                self.assertEqual([entry[2] for entry in story if entry[0] == "freed"], freed)
        _, _, story = run("(z b) (make q) (done)", pact=(("given", "given"), False, ()))
        self.assertEqual([entry[2] for entry in story if entry[0] == "freed"], [0, 1, 2])

    def test_what_comes_back(self):
        self.assertEqual(self.story("() (make x) (call brings () to x) (use x) (done)"),
                         [("made", 1, 0), ("entered", 2, "brings", 1), ("made", 2, 1), ("ended", 2, "", 1), ("got", 1, 1),
                          ("freed", 1, 0), ("used", 1, 1), ("freed", 1, 1), ("ended", 1, "", None)])

    def test_what_is_handed_over(self):
        self.assertEqual(self.story("() (make x) (call uses (x)) (call eats (x)) (make x) (put x) (call uses (shelf)) (done)"),
                         [("made", 1, 0), ("entered", 2, "uses", 1), ("lent", 1, 0, 2), ("used", 2, 0), ("ended", 2, "", None),
                          ("entered", 3, "eats", 1), ("gave", 1, 0, 3), ("freed", 3, 0), ("ended", 3, "", None),
                          ("made", 1, 1), ("entered", 4, "uses", 1), ("lent", 1, 1, 4), ("used", 4, 1),
                          ("ended", 4, "", None), ("ended", 1, "", None)])
        self.assertEqual(self.broken("() (call eats (x)) (done)"), ("empty", 1, "run", 0, None))
        self.assertEqual(self.broken("() (make y) (call uses (shelf)) (done)"), ("empty", 1, "run", 1, None))

    def test_an_arm(self):
        text = "() (make x) (call eats (x) (on spilt y ((use y)))) (make z) (done)"
        self.assertEqual(self.story(text, [1]),
                         [("made", 1, 0), ("entered", 2, "eats", 1), ("gave", 1, 0, 2), ("ended", 2, "full", 0),
                          ("caught", 1, "spilt", 0), ("used", 1, 0), ("made", 1, 1), ("freed", 1, 0), ("freed", 1, 1),
                          ("ended", 1, "", None)])
        self.assertEqual([entry[0] for entry in self.story(text)], ["made", "entered", "gave", "freed", "ended", "made",
                                                                     "freed", "ended"])

    def test_an_arms_name_is_cleared_ahead(self):
        text = "() (make x) (make y) (call eats (x) (on spilt y ())) (done)"
        self.assertEqual(self.story(text, [1])[5:7], [("caught", 1, "spilt", 0), ("freed", 1, 1)])

    def test_a_bare_arm(self):
        text = "() (make x) (call uses (x) (on shut ((free x)))) (make z) (done)"
        self.assertEqual(self.story(text, [1])[3:], [("ended", 2, "barred", None), ("caught", 1, "shut", None), ("freed", 1, 0),
                                                     ("made", 1, 1), ("freed", 1, 1), ("ended", 1, "", None)])

    def test_an_arm_that_ends_the_call(self):
        text = "() (make x) (call uses (x) (on shut ((done)))) (make z) (done)"
        self.assertEqual(self.story(text, [1])[4:], [("caught", 1, "shut", None), ("freed", 1, 0), ("ended", 1, "", None)])

    def test_without_an_arm_it_is_thrown_on(self):
        text = "() (make y) (make x) (call eats (x)) (done)"
        self.assertEqual(self.story(text, [1], told=("threw", "spilt", 1))[5:],
                         [("caught", 1, "spilt", 1), ("freed", 1, 0), ("ended", 1, "spilt", 1), ("caught", 0, "spilt", 1)])
        text = "() (make y) (call uses (y)) (done)"
        self.assertEqual(self.story(text, [1], told=("threw", "shut", None))[4:],
                         [("caught", 1, "shut", None), ("freed", 1, 0), ("ended", 1, "shut", None), ("caught", 0, "shut", None)])

    def test_without_an_arm_where_it_may_not_throw_it(self):
        text = "() (make y) (make x) (call eats (x)) (done)"
        pact = ((), False, ("shut",))
        self.assertEqual(self.broken(text, [1], pact=pact), ("unnamed", 1, "run", 2, None))
        self.assertEqual(run(text, self.FAR, self.BODIES, picks=[1], pact=pact)[2][-4:],
                         [("caught", 1, "spilt", 1), ("freed", 1, 0), ("broke", 1, "unnamed"), ("freed", 1, 1)])

    def test_the_other_errors_than_the_arms(self):
        helpers = [("all", 1, (), True, ("full", "barred"))]
        bodies = {"all": "pick 3\nmake a\ndone a\npick 5\nthrow barred\nmake a\nthrow full a"}
        text = "() (make y) (call all () to x (on shut ((free y)))) (make x) (done)"
        ends = []
        for picks in ((), (1,), (1, 1)):
            told, _, story = run(text, helpers, bodies, picks=picks)
            ends.append(told[0])
        self.assertEqual(ends, ["done", "done", "threw"])

    def test_places_of_breaks_and_lenders_are_statements(self):
        bodies = {**self.BODIES, "uses": "free a\ndone"}
        _, world, _ = run("() (pick () ()) (make x) (pick ((call uses (x))) ()) (done)", self.FAR, bodies, picks=[0, 1])
        self.assertEqual(world.broken(), ("lent", 2, "uses", 0, (1, 3)))


class AsRows(unittest.TestCase):
    def test_the_rows_do_the_same(self):
        # The rows of a said body, as a body in rows, give the same log.
        pacts = pacts_of(HELPERS)
        text = ("(x y) (again ((pick ((use x)) ((make z))))) (call taker (y x) to z (on shut ((pick ((free z)) ()))))"
                " (put z) (call none () (on spilt z ((throw spilt z)))) (take z) (done z)")
        side = Side(pacts, 0, {"giver": text, "plain": harmless(pacts, "plain")})
        far = {"taker": "clear b\npick 4\nuse a\ndone a\nclear a\npick 8\nmake a\nthrow full a\nthrow barred",
               "none": "pick 2\ndone\nmake a\nthrow full a"}
        for number in range(256):
            picks = [(number >> at) % 2 for at in range(8)]
            logs = []
            for body in (text, "\n".join(side.rows("giver"))):
                world = world_of(HELPERS, {**far, "giver": body, "plain": harmless(pacts, "plain")})
                told = world.call("giver", picks=picks)
                logs.append((told, world.log()))
            self.assertEqual(logs[0], logs[1])


if __name__ == "__main__":
    unittest.main()
