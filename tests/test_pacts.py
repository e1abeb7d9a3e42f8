"""Points 2, 3 and 5 to 8: pairs of words, pacts, and what is told of them."""

import copy
import unittest

from pactford.errors import NoHelper, NoPact, NoWord
from pactford.pacts import Pacts

PAIRS = [("spilt", "full", True), ("full", "spilt", False), ("away", "away", False)]
HELPERS = [
    ("pour", 1, ("lent", "given"), True, ("full", "away")),
    ("fill", 0, (), False, ()),
    ("hold", 0, ("given",), True, ("away", "spilt", "full")),
    ("abcdefgh", 1, ("lent", "lent", "given"), False, ()),
]
HUGE = 10 ** 40 - 1


def made():
    return Pacts(list(PAIRS), list(HELPERS))


def pair_at(number):
    letter = "abcdefghij"[number]
    return ("n" + letter, "f" + letter, number > 2)


class Refused(unittest.TestCase):
    def refused(self, at, pairs, helpers):
        handed = copy.deepcopy((pairs, helpers))
        with self.assertRaises(NoPact) as caught:
            Pacts(pairs, helpers)
        self.assertEqual(caught.exception.at, at)
        self.assertEqual((pairs, helpers), handed)

    def refused_pair(self, pair):
        with self.subTest(pair=pair):
            self.refused(0, [pair], [])
            self.refused(1, [("other", "other", False), pair, ("", "", 0)], [("", 2, 0, 0, 0)])

    def refused_helper(self, pact):
        with self.subTest(pact=pact):
            self.refused(3, PAIRS, [pact])
            self.refused(4, PAIRS, [("other", 0, (), False, ()), pact, ("", 2, 0, 0, 0)])


class Pairs(Refused):
    def test_no_pairs_and_no_helpers(self):
        pacts = Pacts([], [])
        self.assertEqual((pacts.pairs(), pacts.names(0), pacts.names(1), len(pacts)), ([], [], [], 0))

    def test_names_of_one_and_of_eight_letters(self):
        pairs = [("a", "z", False), ("abcdefgh", "stuvwxyz", True)]
        self.assertEqual(Pacts(pairs, []).pairs(), pairs)

    def test_words_that_are_no_names(self):
        for word in ("", "abcdefghi", "Full", "fu1l", "fu ll", " ", "full\n", "f-l", "f_l", "`", "{", "@",
                     "z" * 3000):
            self.refused_pair((word, "full", False))
            self.refused_pair(("full", word, True))

    def test_letters_of_other_alphabets(self):
        for word in ("\u00e9", "\u03b1", "\uff41"):
            self.refused_pair((word, "full", False))

    def test_pairs_of_other_kinds(self):
        for pair in ((), ("a",), ("a", "b"), ("a", "b", True, True), ["a", "b", True], "abc", None, 5,
                     (1, "b", True), ("a", None, True), ("a", "b", 1), ("a", "b", 0), ("a", "b", None),
                     ("a", "b", "laden"), (("a",), "b", True)):
            self.refused_pair(pair)

    def test_no_word_twice_on_a_side(self):
        self.refused(1, [("a", "b", True), ("a", "c", True)], [])
        self.refused(1, [("a", "b", True), ("c", "b", False)], [])
        self.refused(2, [("a", "b", True), ("b", "a", True), ("c", "a", True)], [])
        self.refused(3, [("a", "a", True), ("b", "b", True), ("c", "c", True), ("b", "d", True)], [])

    def test_a_word_of_both_sides(self):
        pairs = [("a", "a", True), ("b", "c", True), ("c", "b", False)]
        self.assertEqual(Pacts(pairs, []).pairs(), pairs)

    def test_six_pairs_and_a_seventh(self):
        pairs = [pair_at(number) for number in range(7)]
        self.assertEqual(Pacts(pairs[:6], []).pairs(), pairs[:6])
        self.refused(6, pairs, [])
        self.refused(6, pairs + [pair_at(8)], [("", 0, (), False, ())])

    def test_the_first_wrong_one_is_told(self):
        self.refused(1, [("a", "b", True), ("", "c", True), ("", "d", True)], [])
        self.refused(2, [("a", "b", True), ("b", "c", True), ("a", "d", True), ("", "", 1)], [])

    def test_pairs_are_counted_ahead_of_pacts(self):
        self.refused(0, [("", "b", True)], [("", 0, (), False, ())])
        self.refused(1, [("a", "b", True)], [("", 0, (), False, ())])
        self.refused(0, [], [("", 0, (), False, ())])


class Helpers(Refused):
    def test_names_of_one_and_of_eight_letters(self):
        helpers = [("z", 0, (), False, ()), ("abcdefgh", 1, (), True, ())]
        self.assertEqual(Pacts([], helpers).names(1), ["abcdefgh"])

    def test_names_that_are_none(self):
        for name in ("", "abcdefghi", "Pour", "po ur", "pour\n", "p0", None, 5, ("a",)):
            self.refused_helper((name, 0, (), False, ()))

    def test_sides_that_are_none(self):
        for side in (2, -1, HUGE, -HUGE, True, False, None, "0", "1"):
            self.refused_helper(("pour", side, (), False, ()))

    def test_three_takes_and_a_fourth(self):
        takes = ("lent", "given", "lent")
        pact = ("pour", 0, takes, False, ())
        self.assertEqual(Pacts([], [pact]).pact("pour"), pact)
        self.refused_helper(("pour", 0, takes + ("given",), False, ()))
        self.refused_helper(("pour", 1, ("given",) * 3000, False, ()))

    def test_takes_that_are_none(self):
        for takes in (("",), ("lend",), ("lent", "give"), ("Lent",), ("lent given",), (1,), (None,),
                      ["lent"], "lent", None):
            self.refused_helper(("pour", 0, takes, False, ()))

    def test_gives_is_a_truth(self):
        for gives in (0, 1, None, "gives", ""):
            self.refused_helper(("pour", 0, (), gives, ()))

    def test_four_throws_and_a_fifth(self):
        pairs = [pair_at(number) for number in range(6)]
        fars = tuple([pair[1] for pair in pairs])
        pact = ("pour", 1, (), False, fars[:4])
        self.assertEqual(Pacts(pairs, [pact]).pact("pour"), pact)
        self.refused(6, pairs, [("pour", 1, (), False, fars[:5])])
        self.refused(6, pairs, [("pour", 1, (), False, fars)])

    def test_unlike_throws(self):
        self.refused_helper(("pour", 0, (), False, ("spilt", "spilt")))
        self.refused_helper(("pour", 0, (), False, ("spilt", "away", "full", "spilt")))

    def test_throws_are_words_of_the_own_side(self):
        pairs = [("near", "far", False)]
        self.refused(1, pairs, [("pour", 0, (), False, ("far",))])
        self.refused(1, pairs, [("pour", 1, (), False, ("near",))])
        self.refused(2, pairs, [("fill", 0, (), False, ("near",)), ("pour", 1, (), False, ("far", "near"))])
        for word in ("", "nothing", "Near", "near far"):
            self.refused(1, pairs, [("pour", 0, (), False, ("near", word))])

    def test_throws_of_other_kinds(self):
        for throws in (["away"], "away", None, (1,), (None, "away"), (("away",),)):
            self.refused_helper(("pour", 0, (), False, throws))

    def test_pacts_of_other_kinds(self):
        for pact in ((), ("pour",), ("pour", 0, (), False), ("pour", 0, (), False, (), ()),
                     ["pour", 0, (), False, ()], "pour0", None, 5):
            self.refused_helper(pact)

    def test_four_helpers_of_a_side_and_a_fifth(self):
        for side in (0, 1):
            own = [("own" + letter, side, (), False, ()) for letter in "abcde"]
            others = [("far" + letter, 1 - side, (), False, ()) for letter in "abcde"]
            with self.subTest(side=side):
                pacts = Pacts([], own[:4] + others[:4])
                self.assertEqual(len(pacts), 8)
                self.refused(4, [], own)
                self.refused(8, [], own[:4] + others[:4] + own[4:])
                self.refused(8, [], own[:4] + others[:4] + others[4:])
                self.refused(5, PAIRS[:1], own + others)
                self.refused(6, [], own[:3] + others[:2] + own[3:4] + own[:1] + own[4:])

    def test_no_name_twice(self):
        for side in (0, 1):
            self.refused(1, [], [("pour", 0, (), False, ()), ("pour", side, (), True, ())])
            self.refused(5, PAIRS, [("pour", 1, (), False, ()), ("fill", 0, (), False, ()),
                                    ("pour", side, (), True, ())])

    def test_a_name_may_be_a_word(self):
        helpers = [("spilt", 0, (), False, ()), ("full", 1, (), False, ("full",))]
        self.assertEqual(len(Pacts(PAIRS, helpers)), 2)

    def test_the_first_wrong_one_is_told(self):
        self.refused(4, PAIRS, [HELPERS[1], ("", 0, (), False, ()), ("", 1, (), False, ())])


class Told(unittest.TestCase):
    def test_pairs_in_order(self):
        self.assertEqual(made().pairs(), PAIRS)
        self.assertEqual(Pacts(PAIRS[::-1], []).pairs(), PAIRS[::-1])

    def test_names_of_a_side_in_order(self):
        pacts = made()
        self.assertEqual(pacts.names(0), ["fill", "hold"])
        self.assertEqual(pacts.names(1), ["pour", "abcdefgh"])
        self.assertEqual(pacts.names(side=1), ["pour", "abcdefgh"])
        self.assertEqual(Pacts(PAIRS, HELPERS[::-1]).names(0), ["hold", "fill"])

    def test_a_pact(self):
        pacts = made()
        for pact in HELPERS:
            self.assertEqual(pacts.pact(pact[0]), pact)
            self.assertEqual(pacts.pact(name=pact[0]), pact)
            self.assertIs(type(pacts.pact(pact[0])), tuple)

    def test_no_such_helper(self):
        pacts = made()
        for name in ("", "spilt", "Pour", "pour ", "a\nb", "zzz"):
            with self.subTest(name=name):
                with self.assertRaises(NoHelper) as caught:
                    pacts.pact(name)
                self.assertEqual(caught.exception.name, name)
                for side in (0, 1):
                    with self.assertRaises(NoHelper) as caught:
                        pacts.errors(name, side=side)
                    self.assertEqual(caught.exception.name, name)

    def test_no_helper_of_another_kind(self):
        for name in (None, 5, (), ["pour"], ("pour",)):
            with self.subTest(name=name), self.assertRaises(NoHelper):
                made().pact(name)

    def test_laden(self):
        pacts = made()
        for near, far, laden in PAIRS:
            self.assertIs(pacts.laden(near, side=0), laden)
            self.assertIs(pacts.laden(far, side=1), laden)
            self.assertIs(pacts.laden(word=far, side=1), laden)

    def test_over(self):
        pacts = made()
        self.assertEqual(pacts.over("spilt", side=0), "full")
        self.assertEqual(pacts.over("full", side=0), "spilt")
        self.assertEqual(pacts.over("away", side=0), "away")
        one = Pacts([("near", "far", False), ("wide", "near", True)], [])
        self.assertEqual(one.over("near", side=0), "far")
        self.assertEqual(one.over("near", side=1), "wide")
        self.assertEqual(one.over(word="far", side=1), "near")

    def test_no_such_word_of_that_side(self):
        pacts = Pacts([("near", "far", False), ("wide", "near", True)], HELPERS[1:2])
        wrong = [("far", 0), ("wide", 1), ("", 0), ("Near", 0), ("near ", 1), ("fill", 0), ("near", 2),
                 ("near", -1), ("far", -1), ("near", HUGE), ("near", True), ("near", False), ("near", None)]
        for word, side in wrong:
            for asked in (pacts.laden, pacts.over):
                with self.subTest(word=word, side=side):
                    with self.assertRaises(NoWord) as caught:
                        asked(word, side=side)
                    self.assertEqual(caught.exception.word, word)

    def test_no_word_of_another_kind(self):
        for word in (None, 5, True, (), ["away"]):
            with self.subTest(word=word), self.assertRaises(NoWord):
                made().over(word, side=0)

    def test_errors_of_a_helper(self):
        pacts = made()
        self.assertEqual(pacts.errors("hold", side=0), ["away", "spilt", "full"])
        self.assertEqual(pacts.errors("hold", side=1), ["away", "full", "spilt"])
        self.assertEqual(pacts.errors("pour", side=1), ["full", "away"])
        self.assertEqual(pacts.errors("pour", side=0), ["spilt", "away"])
        self.assertEqual(pacts.errors(name="fill", side=0), [])
        self.assertEqual(pacts.errors("abcdefgh", side=0), [])

    def test_sides_by_their_name_alone(self):
        pacts = made()
        for asked, word in ((pacts.laden, "away"), (pacts.over, "away"), (pacts.errors, "pour")):
            with self.assertRaises(TypeError):
                asked(word, 0)
            with self.assertRaises(TypeError):
                asked(word)

    def test_len(self):
        self.assertEqual(len(made()), 4)
        self.assertEqual(len(Pacts(PAIRS, [])), 0)

    def test_made_by_places_or_by_names(self):
        self.assertEqual(Pacts(helpers=HELPERS, pairs=PAIRS), made())
        self.assertEqual(Pacts(PAIRS, helpers=HELPERS), made())


class Equal(unittest.TestCase):
    def test_equal(self):
        self.assertTrue(made() == made())
        self.assertFalse(made() != made())
        self.assertTrue(Pacts([], []) == Pacts([], []))

    def test_unlike(self):
        pacts = made()
        others = [
            Pacts([], []),
            Pacts(PAIRS, []),
            Pacts(PAIRS, HELPERS[:-1]),
            Pacts(PAIRS, HELPERS[::-1]),
            Pacts([PAIRS[1], PAIRS[0], PAIRS[2]], HELPERS),
            Pacts(PAIRS + [("more", "more", False)], HELPERS),
            Pacts(PAIRS[:2] + [("away", "away", True)], HELPERS),
            Pacts(PAIRS, [("pour", 1, ("lent", "given"), False, ("full", "away"))] + HELPERS[1:]),
            Pacts(PAIRS, [("pour", 1, ("given", "lent"), True, ("full", "away"))] + HELPERS[1:]),
            Pacts(PAIRS, [("pour", 1, ("lent", "given"), True, ("away", "full"))] + HELPERS[1:]),
        ]
        for other in others:
            with self.subTest(other=str(other)):
                self.assertFalse(pacts == other)
                self.assertTrue(pacts != other)
                self.assertFalse(other == pacts)

    def test_nothing_of_another_kind(self):
        for other in (None, 0, 4, "", str(made()), [], (), {}, (PAIRS, HELPERS), PAIRS, Pacts):
            with self.subTest(other=other):
                self.assertFalse(made() == other)
                self.assertTrue(made() != other)
                self.assertFalse(other == made())
        self.assertFalse(Pacts([], []) == [])
        self.assertFalse(Pacts([], []) == "")


class Apart(unittest.TestCase):
    def told(self, pacts):
        return (pacts.pairs(), pacts.names(0), pacts.names(1), pacts.errors("pour", side=0),
                pacts.errors("hold", side=0), len(pacts), str(pacts))

    def test_what_was_handed_in_is_not_changed(self):
        pairs, helpers = list(PAIRS), list(HELPERS)
        Pacts(pairs, helpers)
        self.assertEqual((pairs, helpers), (PAIRS, HELPERS))

    def test_lists_handed_in_and_changed_behind_the_call(self):
        pairs, helpers = list(PAIRS), list(HELPERS)
        pacts = Pacts(pairs, helpers)
        ahead = self.told(pacts)
        pairs.append(("more", "more", True))
        pairs[0] = ("else", "else", False)
        helpers.clear()
        self.assertEqual(self.told(pacts), ahead)
        self.assertEqual(pacts, made())

    def test_lists_told_and_changed_behind_the_call(self):
        pacts = made()
        ahead = self.told(pacts)
        for told in (pacts.pairs(), pacts.names(0), pacts.names(1), pacts.errors("hold", side=0),
                     pacts.errors("hold", side=1), pacts.errors("fill", side=0)):
            told.append("more")
            told[0] = "else"
        self.assertEqual(self.told(pacts), ahead)
        self.assertEqual(pacts, made())

    def test_what_was_refused_leaves_all_as_it_was(self):
        pacts = made()
        ahead = self.told(pacts)
        for wrong in (lambda: pacts.pact("zzz"), lambda: pacts.over("zzz", side=0),
                      lambda: pacts.laden("zzz", side=1), lambda: pacts.errors("zzz", side=1)):
            with self.assertRaises((NoHelper, NoWord)):
                wrong()
        self.assertEqual(self.told(pacts), ahead)

    def test_two_pacts_have_nothing_in_common(self):
        pairs, helpers = list(PAIRS), list(HELPERS)
        one = Pacts(pairs, helpers)
        pairs.pop()
        two = Pacts(pairs + [("away", "gone", False)], [])
        self.assertEqual(one, made())
        self.assertEqual(two.over("away", side=0), "gone")


if __name__ == "__main__":
    unittest.main()
