"""Point 9: the text of pacts, told and read."""

import unittest

from pactford.errors import NoPact, NoText
from pactford.pacts import Pacts, read_pacts

PAIRS = [("spilt", "full", True), ("away", "away", False)]
HELPERS = [
    ("pour", 1, ("lent", "given"), True, ("full",)),
    ("fill", 0, (), False, ()),
    ("hold", 0, ("given",), False, ("away", "spilt")),
    ("give", 1, (), True, ()),
]
TEXT = """word spilt full laden
word away away
helper pour 1 lent given gives throws full
helper fill 0
helper hold 0 given throws away spilt
helper give 1 gives"""


class Written(unittest.TestCase):
    def test_text(self):
        self.assertEqual(str(Pacts(PAIRS, HELPERS)), TEXT)

    def test_order_of_the_lists(self):
        lines = TEXT.split("\n")
        self.assertEqual(str(Pacts(PAIRS[::-1], HELPERS[::-1])), "\n".join(lines[1::-1] + lines[:1:-1]))

    def test_text_without_signs(self):
        self.assertEqual(str(Pacts([], [])), "")

    def test_pairs_alone_and_helpers_alone(self):
        self.assertEqual(str(Pacts(PAIRS, [])), "word spilt full laden\nword away away")
        self.assertEqual(str(Pacts([], [("a", 0, ("lent",) * 3, True, ())])), "helper a 0 lent lent lent gives")


class Read(unittest.TestCase):
    def same(self, pairs, helpers):
        pacts = Pacts(pairs, helpers)
        read = read_pacts(str(pacts))
        self.assertEqual(read, pacts)
        self.assertEqual((read.pairs(), str(read)), (pairs, str(pacts)))
        for pact in helpers:
            self.assertEqual(read.pact(pact[0]), pact)

    def test_text(self):
        self.assertEqual(read_pacts(TEXT), Pacts(PAIRS, HELPERS))
        self.assertEqual(read_pacts(text=TEXT), Pacts(PAIRS, HELPERS))

    def test_text_without_signs(self):
        self.assertEqual(read_pacts(""), Pacts([], []))

    def test_kinds_of_values(self):
        pacts = read_pacts(TEXT)
        self.assertIs(pacts.laden("spilt", side=0), True)
        self.assertIs(pacts.laden("away", side=0), False)
        name, side, takes, gives, throws = pacts.pact("pour")
        self.assertEqual([type(part) for part in (name, side, takes, gives, throws)],
                         [str, int, tuple, bool, tuple])

    def test_what_was_told_is_read_again(self):
        self.same([], [])
        self.same(PAIRS, [])
        self.same([], HELPERS[1:2])
        self.same(PAIRS, HELPERS)

    def test_names_that_are_words_of_the_form(self):
        self.same([("laden", "laden", True), ("word", "helper", False), ("throws", "lent", False)],
                  [("lent", 0, ("lent",), True, ("throws", "laden")), ("gives", 1, (), False, ("lent",)),
                   ("throws", 0, (), True, ()), ("helper", 1, (), False, ()), ("word", 0, (), False, ())])
        self.assertIs(read_pacts("word a laden").laden("a", side=0), False)

    def test_the_greatest(self):
        pairs = [(letter * 8, letter * 7, True) for letter in "abcdef"]
        takes = ("given", "given", "given")
        helpers = [(letter * 8, 0, takes, True, tuple([pair[0] for pair in pairs[:4]])) for letter in "abcd"]
        helpers += [(letter * 8, 1, takes, True, tuple([pair[1] for pair in pairs[2:]])) for letter in "wxyz"]
        self.same(pairs, helpers)

    def test_each_asking_makes_pacts_of_its_own(self):
        one = read_pacts(TEXT)
        one.pairs().clear()
        self.assertEqual(read_pacts(TEXT), one)


class NoForm(unittest.TestCase):
    def refused(self, text, at):
        with self.subTest(text=text):
            with self.assertRaises(NoText) as caught:
                read_pacts(text)
            self.assertEqual(caught.exception.at, at)

    def refused_line(self, line):
        self.refused(line, 0)
        self.refused("word a b\n" + line + "\nnothing", 1)
        self.refused("word a b\nhelper c 0\n" + line, 2)

    def test_a_line_feed_too_many(self):
        self.refused("\n", 0)
        self.refused("\nword a b", 0)
        self.refused("word a b\n", 1)
        self.refused("word a b\n\nhelper c 0", 1)
        self.refused("word a b\nhelper c 0\n", 2)
        self.refused(TEXT + "\n", 6)

    def test_lines_without_form(self):
        for line in (" ", "word", "helper", "words a b", "Word a b", "help a 0", "laden", "a", "pour 1",
                     "word a", "word a b c", "word a b Laden", "word a b laden laden", "word a b laden c",
                     "helper a", "helper a b", "helper a 2", "helper a 00", "helper a -1", "helper a +0",
                     "helper a 01", "helper a 0 lend", "helper a 0 gives gives", "helper a 0 gives lent",
                     "helper a 0 throws", "helper a 0 gives throws", "helper a 0 lent throws",
                     "helper a 0 full", "helper a 0 full away", "helper a 0 lent full", "helper a 0 gives full",
                     "helper a 0 gives full throws away", "helper a 0 throw full away", "helper 0", "helper 0 a",
                     "helper lent 0 Gives"):
            self.refused_line(line)

    def test_blanks_too_many(self):
        for line in ("word a b ", " word a b", "word  a b", "word a  b", "word a b  laden", "word a b laden ",
                     "word  b", "word a ", "helper  0", "helper a  0", " helper a 0", "helper a 0 ",
                     "helper a 0  gives", "helper a 0 throws ", "helper a 0 throws b ", "helper a 0 throws  b",
                     "helper a 0 throws b  c"):
            self.refused_line(line)

    def test_a_pairs_line_behind_a_helpers(self):
        self.refused("helper a 0\nword a b", 1)
        self.refused("word a b\nhelper a 0\nhelper b 0\nword c d laden\nnothing", 3)

    def test_a_line_without_form_comes_ahead_of_no_pact(self):
        self.refused("word A b\nword a b\nword a b\nhelper a 0 throws x\nhelper a 0\nnothing", 5)
        self.refused("word A b\nword  b", 1)
        self.refused("helper A 0\nword a b", 1)

    def test_the_first_line_without_form_is_told(self):
        self.refused("word a b\nnothing\n\nword", 1)


class NoPacts(unittest.TestCase):
    def refused(self, text, at):
        with self.subTest(text=text):
            with self.assertRaises(NoPact) as caught:
                read_pacts(text)
            self.assertEqual(caught.exception.at, at)

    def test_names_and_words(self):
        self.refused("word A b", 0)
        self.refused("word a abcdefghi", 0)
        self.refused("word a b\nword a c", 1)
        self.refused("word a b\nword c b laden", 1)
        self.refused("word a b\nhelper a1 0", 1)
        self.refused("word a b\nhelper ~!( 0", 1)
        self.refused("helper a 0\nhelper a 1", 1)

    def test_takes(self):
        self.refused("word a b\nhelper a 0 lent lent given\nhelper b 0 lent lent given given", 2)
        self.refused("helper a 0" + " lent" * 3000, 0)

    def test_throws(self):
        self.refused("word a b\nhelper c 0 throws a\nhelper d 0 throws b", 2)
        self.refused("word a b\nhelper c 1 throws a", 1)
        self.refused("word a b\nhelper c 0 throws a a", 1)
        self.refused("word a b\nhelper c 0 gives throws gives", 1)
        five = "\n".join(["word " + letter + " " + letter for letter in "abcde"])
        self.refused(five + "\nhelper c 0 throws a b c d e", 5)
        self.assertEqual(len(read_pacts(five + "\nhelper c 0 throws a b c d")), 1)

    def test_counts(self):
        self.refused("\n".join(["word " + letter + " " + letter for letter in "abcdefg"]), 6)
        self.refused("\n".join(["helper " + letter + " 1" for letter in "abcdefg"]), 4)


if __name__ == "__main__":
    unittest.main()
