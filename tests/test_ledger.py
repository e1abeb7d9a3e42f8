"""Point 36: ledgers."""

import random
import unittest

from making import pacts_of, refusal, world_of
from pactford import ledger
from pactford.errors import TooLong
from pactford.pacts import Pacts
from pactford.world import World
from plain_ledger import plain_is_ledger
from random_sides import do_deed, random_deed, random_pacts, random_side
from shelf_sides import shelf_side

HELPERS = [
    ("fill", 0, ("given",), False, ("spilt", "shut")),
    ("look", 0, ("lent",), False, ()),
    ("tell", 0, (), True, ("spilt",)),
    ("pour", 1, ("lent", "given"), True, ("full", "barred")),
    ("rest", 1, (), False, ("full", "barred")),
    ("none", 1, (), False, ()),
]
PACTS = pacts_of(HELPERS)


def is_ledger(pacts, log):
    told = ledger.is_ledger(pacts, log)
    assert isinstance(told, bool)
    return told


class Looks(unittest.TestCase):
    def right(self, *log):
        log = list(log)
        with self.subTest(log):
            self.assertTrue(plain_is_ledger(PACTS, log))
            self.assertTrue(is_ledger(PACTS, log))

    def wrong(self, *log):
        log = list(log)
        with self.subTest(log):
            self.assertFalse(is_ledger(PACTS, log))
            self.assertFalse(plain_is_ledger(PACTS, log))

    def each(self, log, *others):
        """A right log, and wrong ones that have another tuple at a place, or others, or none."""
        self.right(*log)
        for at, *tuples in others:
            self.wrong(*log[:at], *tuples, *log[at + 1:])


ENTERED = [("entered", 1, "none", 0), ("ended", 1, "", None, None)]
MADE = [("entered", 1, "none", 0), ("made", 1, (0, 0), 0), ("used", 1, (0, 0), 0), ("freed", 1, (0, 0), 0),
        ("ended", 1, "", None, None)]
# The outside hands in two fresh things, and gets one back.
POURED = [("made", 0, None, 0), ("made", 0, None, 1), ("entered", 1, "pour", 0), ("lent", 0, None, 0, 1, (0, 0)),
          ("gave", 0, None, 1, 1, (1, 0)), ("used", 1, (0, 0), 0), ("ended", 1, "", (1, 0), 1), ("got", 0, None, 1),
          ("freed", 0, None, 1), ("freed", 0, None, 0)]
# One of the own side is lent to, then one of the other side is given to; an error comes back.
INNER = [("entered", 1, "tell", 0), ("made", 1, (0, 0), 0), ("made", 1, (1, 0), 1),
         ("entered", 2, "pour", 1), ("lent", 1, (0, 0), 0, 2, (0, 0)), ("gave", 1, (1, 0), 1, 2, (1, 0)),
         ("entered", 3, "look", 2), ("lent", 2, (0, 0), 0, 3, (1, 1)), ("ended", 3, "", None, None),
         ("ended", 2, "full", (1, 0), 1), ("caught", 1, "spilt", (1, 2), 1), ("freed", 1, (0, 0), 0),
         ("ended", 1, "", (1, 2), 1), ("got", 0, None, 1)]


class Forms(Looks):
    def test_empty(self):
        self.right()

    def test_each_is_right(self):
        self.right(*ENTERED)
        self.right(*MADE)
        self.right(*POURED)
        self.right(*INNER)

    def test_parts(self):
        for log in (MADE, POURED, INNER):
            for at, entry in enumerate(log):
                self.each(log, (at, entry[:-1]), (at, (*entry, None)), (at, (*entry, entry[-1])), (at, (*entry, 0)),
                          (at, entry[:1]), (at, ()), (at, entry[1:]), (at, (entry[0] + "s", *entry[1:])), (at, ("", *entry[1:])))

    def test_truths_for_numbers(self):
        for log in (MADE, POURED, INNER):
            for at, entry in enumerate(log):
                for place, part in enumerate(entry):
                    if part in (0, 1):
                        self.wrong(*log[:at], (*entry[:place], bool(part), *entry[place + 1:]), *log[at + 1:])
                    if isinstance(part, tuple):
                        for handle in ((bool(part[0]), part[1]), (part[0], bool(part[1]))):
                            if handle == part:
                                self.wrong(*log[:at], (*entry[:place], handle, *entry[place + 1:]), *log[at + 1:])

    def test_numbers_that_are_other(self):
        for log in (ENTERED, MADE, POURED, INNER):
            for at, entry in enumerate(log):
                for place, part in enumerate(entry):
                    if isinstance(part, int):
                        for other in (part + 1, part - 1, -1, 10 ** 39, None, str(part), (part, part), (0, 0)):
                            if other != part:
                                self.wrong(*log[:at], (*entry[:place], other, *entry[place + 1:]), *log[at + 1:])

    def test_handles_that_are_other(self):
        for log in (MADE, POURED, INNER):
            for at, entry in enumerate(log):
                for place, part in enumerate(entry):
                    if isinstance(part, tuple):
                        row, turn = part
                        for other in ((row + 1, turn), (row, turn + 1), (row - 1, turn), (row, turn - 1), (row + 7, turn), None, 0,
                                      (row,), (row, turn, 0), [row, turn], (row, None), (None, turn), "", (str(row), turn)):
                            self.wrong(*log[:at], (*entry[:place], other, *entry[place + 1:]), *log[at + 1:])

    def test_handles_for_none(self):
        for log in (ENTERED, MADE, POURED, INNER):
            for at, entry in enumerate(log):
                for place, part in enumerate(entry):
                    if part is None:
                        for other in ((0, 0), (1, 0), (0, 1), 0, 1, "", ()):
                            self.wrong(*log[:at], (*entry[:place], other, *entry[place + 1:]), *log[at + 1:])

    def test_texts_that_are_other(self):
        for log in (ENTERED, MADE, POURED, INNER):
            for at, entry in enumerate(log):
                for place, part in enumerate(entry):
                    if isinstance(part, str) and place:
                        for other in ("nobody", "other", "shut", "barred", None, 0, (0, 0), part + " "):
                            self.wrong(*log[:at], (*entry[:place], other, *entry[place + 1:]), *log[at + 1:])

    def test_one_less_or_more_and_exchanged(self):
        for log in (ENTERED, MADE, POURED, INNER):
            for at in range(len(log)):
                less = log[:at] + log[at + 1:]
                self.assertEqual(is_ledger(PACTS, less), plain_is_ledger(PACTS, less))
                if log[at][0] != "used":
                    self.wrong(*log[:at], log[at], *log[at:])
                for other in range(at + 1, len(log)):
                    changed = list(log)
                    changed[at], changed[other] = log[other], log[at]
                    self.assertEqual(is_ledger(PACTS, changed), plain_is_ledger(PACTS, changed))
        self.wrong(*INNER[:13])
        self.wrong(*INNER[:10], *INNER[11:])

    def test_other_kinds(self):
        for log in (None, tuple(ENTERED), "", 0, {}, ENTERED[0], [None], [7], ["made"], [list(ENTERED[0]), ENTERED[1]], [()],
                    [(None, 1)], [(("made",), 0, None, 0)], [(0, 1, 2)], [("made", 0, [0, 0], 0)], [("made", [0], None, 0)],
                    [(["made"], 0, None, 0)]):
            self.assertFalse(is_ledger(PACTS, log))

    def test_what_is_handed_in_stays_as_it_was(self):
        log = list(INNER)
        self.assertTrue(ledger.is_ledger(log=log, pacts=PACTS))
        self.assertEqual(log, INNER)


class Fresh(Looks):
    """Made by the outside."""

    def test_what_comes_behind(self):
        self.wrong(("made", 0, None, 0))
        self.wrong(("made", 0, None, 0), ("freed", 0, None, 0))
        self.wrong(("made", 0, None, 0), *ENTERED)
        self.wrong(*POURED, ("made", 0, None, 2))
        self.wrong(*POURED[:2], ("freed", 0, None, 0), *POURED[2:])
        self.wrong(*POURED[:1], *POURED[2:])
        self.wrong(*POURED[:3], ("made", 0, None, 2), *POURED[3:])
        self.wrong(("entered", 1, "none", 0), ("made", 0, None, 0), ("ended", 1, "", None, None))

    def test_handed_in_in_order_and_once(self):
        def log(made, lent, gave):
            # The outside holds 0 and 1.
            return [*POURED[:8], *[("made", 0, None, thing) for thing in made], ("entered", 2, "pour", 0),
                    ("lent", 0, None, lent, 2, (0, 1)), ("gave", 0, None, gave, 2, (1, 1)), ("ended", 2, "", (1, 1), gave),
                    ("got", 0, None, gave)]

        for right in (([], 0, 1), ([], 1, 0), ([2], 0, 2), ([2], 2, 0), ([2, 3], 2, 3)):
            self.right(*log(*right))
        for wrong in (([2, 3], 3, 2), ([2], 0, 1), ([2, 3], 0, 3), ([2, 3], 0, 2), ([2], 2, 2), ([2, 3, 4], 2, 3), ([], 2, 0),
                      ([3], 0, 3), ([], 0, 0), ([2, 3], 2, 2)):
            self.wrong(*log(*wrong))

    def test_things_that_the_outside_held_between(self):
        pacts = pacts_of([("all", 0, ("given", "lent", "given"), False, ())])

        def log(made, *handed):
            first = [("made", 0, None, at) for at in range(3)]
            entries = [*first, ("entered", 1, "all", 0), ("gave", 0, None, 0, 1, (0, 0)), ("lent", 0, None, 1, 1, (1, 0)),
                       ("gave", 0, None, 2, 1, (2, 0)), ("freed", 1, (0, 0), 0), ("freed", 1, (2, 0), 2),
                       ("ended", 1, "", None, None)]
            entries += [("made", 0, None, thing) for thing in made] + [("entered", 2, "all", 0)]
            for at, thing in enumerate(handed):
                entries.append(("lent" if at == 1 else "gave", 0, None, thing, 2, (at, 1)))
            return [*entries, ("freed", 2, (0, 1), handed[0]), ("freed", 2, (2, 1), handed[2]), ("ended", 2, "", None, None)]

        for made, handed, right in (((3, 4), (3, 1, 4), True), ((3,), (1, 3, 3), False), ((3, 4, 5), (3, 4, 5), True),
                                    ((3, 4), (3, 4, 1), True), ((3, 4), (1, 3, 4), True), ((3, 4), (4, 1, 3), False),
                                    ((3, 4), (3, 1, 3), False), ((3, 4), (3, 4, 4), False), ((3,), (3, 1, 0), False),
                                    ((3, 4, 5), (3, 5, 4), False)):
            self.assertEqual(is_ledger(pacts, log(made, *handed)), right)
            self.assertEqual(plain_is_ledger(pacts, log(made, *handed)), right)

    def test_lent_twice(self):
        pacts = pacts_of([("both", 0, ("lent", "lent"), False, ()), ("mixed", 0, ("lent", "given"), False, ()),
                          ("mixes", 0, ("given", "lent"), False, ())])
        ahead = [("made", 0, None, 0), ("made", 0, None, 1), ("entered", 1, "both", 0), ("lent", 0, None, 0, 1, (0, 0)),
                 ("lent", 0, None, 1, 1, (1, 0)), ("ended", 1, "", None, None)]
        both = [("entered", 2, "both", 0), ("lent", 0, None, 0, 2, (0, 1)), ("lent", 0, None, 0, 2, (1, 1)),
                ("ended", 2, "", None, None)]
        self.assertTrue(is_ledger(pacts, [*ahead, *both]))
        # Fresh ones are handed in just once.
        self.assertFalse(is_ledger(pacts, [*ahead[:1], *ahead[2:4], ("lent", 0, None, 0, 1, (1, 0)), ahead[5]]))
        for name, handed, freed in (("mixed", ("lent", "gave"), (1, 1)), ("mixes", ("gave", "lent"), (0, 1))):
            for things, right in (((0, 1), True), ((1, 0), True), ((0, 0), False), ((1, 1), False)):
                log = [*ahead, ("entered", 2, name, 0), (handed[0], 0, None, things[0], 2, (0, 1)),
                       (handed[1], 0, None, things[1], 2, (1, 1)), ("freed", 2, freed, things[handed.index("gave")]),
                       ("ended", 2, "", None, None)]
                self.assertEqual(is_ledger(pacts, log), right)
                self.assertEqual(plain_is_ledger(pacts, log), right)


class Things(Looks):
    """Used and freed, in calls and by the outside."""

    def test_of_the_last_call(self):
        nested = [("entered", 1, "none", 0), ("made", 1, (0, 0), 0), ("entered", 2, "rest", 1), ("used", 2, (0, 0), 0),
                  ("freed", 2, (0, 0), 0), ("ended", 2, "", None, None), ("ended", 1, "", None, None)]
        # 2 is of the same side, so the handle lives on its side.
        self.right(*nested)
        self.each(nested, (3, ("used", 1, (0, 0), 0)), (3, ("used", 0, (0, 0), 0)), (4, ("freed", 1, (0, 0), 0)),
                  (4, ("freed", 0, (0, 0), 0)), (4, ("freed", 0, None, 0)), (2, ("entered", 2, "tell", 1)), (4, ("made", 1, (1, 0), 1)))
        self.wrong(("used", 0, (0, 0), 0))
        self.wrong(("used", 1, (0, 0), 0))

    def test_lives_with_that_thing(self):
        two = [("entered", 1, "none", 0), ("made", 1, (0, 0), 0), ("made", 1, (1, 0), 1), ("used", 1, (1, 0), 1),
               ("freed", 1, (1, 0), 1), ("made", 1, (1, 1), 2), ("freed", 1, (0, 0), 0), ("freed", 1, (1, 1), 2),
               ("ended", 1, "", None, None)]
        self.each(two, (3, ("used", 1, (1, 0), 0)), (3, ("used", 1, (0, 0), 1)), (4, ("freed", 1, (1, 0), 0)), (5, ("made", 1, (1, 0), 2)),
                  (5, ("made", 1, (2, 0), 2)), (6, ("used", 1, (1, 0), 1), two[6]), (6, ("freed", 1, (1, 0), 1), two[6]),
                  (8, ("freed", 1, (1, 1), 2), two[8]), (8, ("used", 1, (0, 0), 0), two[8]))

    def test_lent_ones(self):
        lent = [("made", 0, None, 0), ("entered", 1, "look", 0), ("lent", 0, None, 0, 1, (0, 0)), ("used", 1, (0, 0), 0),
                ("ended", 1, "", None, None), ("freed", 0, None, 0)]
        self.each(lent, (3, ("freed", 1, (0, 0), 0)), (3, ("freed", 0, None, 0)), (4, lent[4], ("used", 1, (0, 0), 0)),
                  (4, lent[4], ("entered", 2, "look", 0), ("lent", 0, None, 0, 2, (0, 0)), ("ended", 2, "", None, None)))
        self.right(*lent[:5], ("entered", 2, "look", 0), ("lent", 0, None, 0, 2, (0, 1)), ("ended", 2, "", None, None))
        self.wrong(*lent, lent[5])

    def test_of_the_outside(self):
        self.wrong(("freed", 0, None, 0))
        self.wrong(*POURED, ("freed", 0, None, 0))
        self.right(*POURED[:8], POURED[9], POURED[8])
        self.right(*POURED[:9])
        # Behind a letting go all goes on.
        self.right(*POURED, ("entered", 2, "none", 0), ("ended", 2, "", None, None))

    def test_lent_to_an_open_call(self):
        """Nothing is freed, given or ended while it is lent to an open call, also to the one that ends."""
        own = [("entered", 1, "tell", 0), ("made", 1, (0, 0), 0), ("entered", 2, "look", 1), ("lent", 1, (0, 0), 0, 2, (1, 0))]
        end = [("ended", 2, "", None, None), ("ended", 1, "", (0, 0), 0), ("got", 0, None, 0)]
        self.right(*own, *end)
        self.wrong(*own, ("freed", 2, (0, 0), 0), end[0], ("made", 1, (0, 1), 1), ("ended", 1, "", (0, 1), 1), ("got", 0, None, 1))
        self.wrong(*own, ("entered", 3, "fill", 2), ("gave", 2, (0, 0), 0, 3, (0, 1)), ("freed", 3, (0, 1), 0),
                   ("ended", 3, "", None, None), end[0])
        self.wrong(*own, ("entered", 3, "pour", 2), ("lent", 2, (1, 0), 0, 3, (0, 0)), ("gave", 2, (0, 0), 0, 3, (1, 0)))
        # Ended by a call that it is lent to.
        pacts = pacts_of([("outer", 0, (), False, ()), ("inner", 0, ("lent",), True, ("spilt",)), ("plain", 0, (), True, ("spilt",))])
        for name, lend in (("inner", True), ("plain", False)):
            for word in ("", "spilt"):
                log = [("entered", 1, "outer", 0), ("made", 1, (0, 0), 0), ("entered", 2, name, 1)]
                log += [("lent", 1, (0, 0), 0, 2, (1, 0))] if lend else []
                log += [("ended", 2, word, (0, 0), 0)]
                log += [("caught", 1, word, (0, 1), 0) if word else ("got", 1, (0, 1), 0)]
                log += [("freed", 1, (0, 1), 0), ("ended", 1, "", None, None)]
                self.assertEqual(is_ledger(pacts, log), not lend)
                self.assertEqual(plain_is_ledger(pacts, log), not lend)

    def test_lent_twice_and_one_of_them_over(self):
        log = [("entered", 1, "tell", 0), ("made", 1, (0, 0), 0), ("entered", 2, "look", 1), ("lent", 1, (0, 0), 0, 2, (1, 0)),
               ("entered", 3, "look", 2), ("lent", 2, (1, 0), 0, 3, (2, 0)), ("ended", 3, "", None, None)]
        end = [("ended", 2, "", None, None), ("ended", 1, "", (0, 0), 0), ("got", 0, None, 0)]
        self.right(*log, *end)
        self.wrong(*log, ("freed", 2, (0, 0), 0), end[0])
        self.wrong(*log, ("freed", 2, (0, 0), 0), end[0], ("made", 1, (0, 1), 1), ("ended", 1, "", (0, 1), 1), ("got", 0, None, 1))

    def test_lent_by_the_outside_and_given(self):
        log = [*POURED[:8], ("entered", 2, "pour", 0), ("lent", 0, None, 0, 2, (0, 1)), ("gave", 0, None, 1, 2, (1, 1)),
               ("made", 2, (2, 0), 2), ("ended", 2, "", (2, 0), 2), ("got", 0, None, 2)]
        self.each(log, (10, ("gave", 0, None, 0, 2, (1, 1))))

    def test_lent_to_a_call_of_the_other_side(self):
        log = [("entered", 1, "tell", 0), ("made", 1, (0, 0), 0), ("made", 1, (1, 0), 1), ("entered", 2, "pour", 1),
               ("lent", 1, (0, 0), 0, 2, (0, 0)), ("gave", 1, (1, 0), 1, 2, (1, 0)), ("entered", 3, "tell", 2),
               ("freed", 3, (0, 0), 0), ("made", 3, (0, 1), 2), ("ended", 3, "", (0, 1), 2), ("got", 2, (2, 0), 2)]
        self.assertFalse(is_ledger(PACTS, [*log, ("freed", 2, (2, 0), 2), ("ended", 2, "", (1, 0), 1), ("got", 1, (0, 2), 1),
                                           ("ended", 1, "", (0, 2), 1), ("got", 0, None, 1)]))
        right = [*log[:7], ("made", 3, (1, 1), 2), ("ended", 3, "", (1, 1), 2), log[10], ("freed", 2, (2, 0), 2),
                 ("ended", 2, "", (1, 0), 1), ("got", 1, (1, 2), 1), ("freed", 1, (0, 0), 0), ("ended", 1, "", (1, 2), 1),
                 ("got", 0, None, 1)]
        self.right(*right)
        self.right(*right[:13], ("used", 1, (0, 0), 0), *right[13:])


class Takes(Looks):
    def test_entered(self):
        two = [*ENTERED, ("entered", 2, "rest", 0), ("entered", 3, "none", 2), ("ended", 3, "", None, None), ("ended", 2, "", None, None)]
        self.each(two, (2, ("entered", 3, "rest", 0)), (2, ("entered", 1, "rest", 0)), (2, ("entered", 2, "rest", 1)),
                  (3, ("entered", 3, "none", 0)), (3, ("entered", 3, "none", 1)), (3, ("entered", 3, "none", 3)),
                  (3, ("entered", 2, "none", 2)), (3, ("entered", 3, "None", 2)), (3, ("entered", 3, "", 2)))

    def test_one_wrong_tuple_is_enough(self):
        """Also where all goes on as if it had not been there."""
        self.wrong(("entered", 1, "nobody", 0))
        self.wrong(("entered", 1, "", 0), *ENTERED)
        lent = [*POURED[:8], ("entered", 2, "look", 0), ("lent", 0, None, 0, 2, (0, 0)), ("ended", 2, "", None, None)]
        self.each(lent, (9, ("lent", 2, None, 0, 2, (0, 0))), (9, ("lent", 1, None, 0, 2, (0, 0))), (9, ("lent", 0, None, 0, 1, (0, 0))))
        for entry in (("ended", 1, "barred", None, None), ("ended", 1, "", None, 0), ("ended", 1, "", (0, 0), None),
                      ("ended", 1, "", (0, 0), 0), ("ended", 1, "spilt", None, None), ("used", 1, (0, 0), 0), ("broke", 1, "")):
            self.wrong(ENTERED[0], entry, ENTERED[1])
        gives = [("entered", 1, "tell", 0), ("made", 1, (0, 0), 0), ("ended", 1, "", (0, 0), 0), ("got", 0, None, 0)]
        self.each(gives, (2, ("ended", 1, "", None, None), gives[2]), (2, ("ended", 1, "spilt", None, None), gives[2]))
        bare = [("entered", 1, "rest", 0), ("ended", 1, "barred", None, None), ("caught", 0, "barred", None, None)]
        self.each(bare, (2, ("passed", 0, "barred"), bare[2]), (2, ("broke", 0, "unnamed"), bare[2]), (2, ("broke", 0, "unnamed")))

    def test_just_behind_and_in_order(self):
        self.wrong(*POURED[:4], POURED[5], POURED[4], *POURED[6:])
        self.wrong(*POURED[:3], POURED[4], POURED[3], *POURED[5:])
        self.wrong(*POURED[:3], *POURED[4:])
        self.wrong(*POURED[:4], *POURED[5:])
        self.wrong(*POURED[:5], POURED[4], *POURED[5:])
        self.wrong(*POURED[:4], POURED[3], *POURED[5:])
        self.wrong(*POURED[:4], ("made", 1, (1, 0), 2), *POURED[4:])
        self.wrong(*POURED[:3], ("entered", 2, "none", 1), ("ended", 2, "", None, None), *POURED[3:])
        self.wrong(*ENTERED[:1], ("lent", 0, None, 0, 1, (0, 0)), *ENTERED[1:])
        self.wrong(POURED[3])

    def test_lent_or_gave_as_the_pact_tells(self):
        self.each(POURED, (3, ("gave", *POURED[3][1:])), (4, ("lent", *POURED[4][1:])))
        self.each(INNER, (4, ("gave", *INNER[4][1:])), (5, ("lent", *INNER[5][1:])))

    def test_by_and_for(self):
        self.each(POURED, (3, ("lent", 1, None, 0, 1, (0, 0))), (3, ("lent", 0, None, 0, 0, (0, 0))), (3, ("lent", 0, None, 0, 2, (0, 0))))
        self.each(INNER, (4, ("lent", 0, (0, 0), 0, 2, (0, 0))), (4, ("lent", 0, None, 0, 2, (0, 0))),
                  (4, ("lent", 2, (0, 0), 0, 2, (0, 0))), (4, ("lent", 1, (0, 0), 0, 1, (0, 0))),
                  (5, ("gave", 1, None, 1, 2, (1, 0))), (7, ("lent", 1, (0, 0), 0, 3, (1, 1))))

    def test_handles_exchanged(self):
        self.each(INNER, (4, ("lent", 1, (1, 0), 0, 2, (0, 0))), (4, ("lent", 1, (1, 0), 1, 2, (0, 0))),
                  (5, ("gave", 1, (0, 0), 0, 2, (1, 0))), (5, ("gave", 1, (0, 0), 1, 2, (1, 0))), (7, ("lent", 2, (1, 0), 0, 3, (1, 1))))

    def test_what_was_given_is_not_there_any_more(self):
        pacts = pacts_of([("outer", 0, (), False, ()), ("eat", 0, ("given", "given"), False, ()), ("sip", 0, ("given", "lent"), False, ()),
                          ("bite", 0, ("lent", "given"), False, ())])
        ahead = [("entered", 1, "outer", 0), ("made", 1, (0, 0), 0), ("made", 1, (1, 0), 1)]

        def log(name, *handed):
            return [*ahead, ("entered", 2, name, 1), *[(word, 1, handle, thing, 2, new) for word, handle, thing, new in handed],
                    *[("freed", 2, new, thing) for word, _, thing, new in handed if word == "gave"], ("ended", 2, "", None, None)]

        end = [("freed", 1, (1, 0), 1), ("ended", 1, "", None, None)]
        for name, handed, right in (
                ("eat", [("gave", (0, 0), 0, (0, 1)), ("gave", (1, 0), 1, (1, 1))], True),
                ("eat", [("gave", (0, 0), 0, (0, 1)), ("gave", (0, 0), 0, (0, 2))], False),
                ("eat", [("gave", (1, 0), 1, (1, 1)), ("gave", (0, 0), 0, (0, 1))], True),
                ("eat", [("gave", (0, 0), 0, (2, 0)), ("gave", (1, 0), 1, (0, 1))], False),
                ("sip", [("gave", (0, 0), 0, (0, 1)), ("lent", (0, 0), 0, (2, 0))], False),
                ("sip", [("gave", (0, 0), 0, (0, 1)), ("lent", (1, 0), 1, (2, 0))], True),
                ("bite", [("lent", (0, 0), 0, (2, 0)), ("gave", (0, 0), 0, (0, 1))], False),
                ("bite", [("lent", (1, 0), 1, (2, 0)), ("gave", (0, 0), 0, (0, 1))], True)):
            entries = [*log(name, *handed), *(end if name != "eat" else end[1:])]
            with self.subTest(name, handed=handed):
                self.assertEqual(is_ledger(pacts, entries), right)
                self.assertEqual(plain_is_ledger(pacts, entries), right)
        # What a tuple hands in is its handle, not its new.
        entries = [*ahead[:2], ("entered", 2, "sip", 1), ("gave", 1, (0, 0), 0, 2, (0, 1)), ("lent", 1, (0, 1), 0, 2, (1, 0)),
                   ("ended", 2, "", None, None), ("freed", 1, (0, 1), 0), ("ended", 1, "", None, None)]
        self.assertTrue(is_ledger(pacts, entries))
        self.assertTrue(plain_is_ledger(pacts, entries))
        entries = [*ahead[:2], ("entered", 2, "eat", 1), ("gave", 1, (0, 0), 0, 2, (0, 1)), ("gave", 1, (0, 1), 0, 2, (0, 2)),
                   ("freed", 2, (0, 2), 0), ("ended", 2, "", None, None), ("ended", 1, "", None, None)]
        self.assertTrue(is_ledger(pacts, entries))
        self.assertTrue(plain_is_ledger(pacts, entries))

    def test_a_thing_that_the_outside_does_not_hold(self):
        call = [("entered", 2, "look", 0), ("lent", 0, None, 1, 2, (0, 0)), ("ended", 2, "", None, None)]
        self.right(*POURED[:8], *call)
        self.wrong(*POURED[:9], *call)
        self.wrong(*POURED[:6], ("ended", 1, "barred", None, None), ("caught", 0, "barred", None, None), *call)
        self.wrong(*call)


class Ends(Looks):
    THREW = [("entered", 1, "tell", 0), ("made", 1, (0, 0), 0), ("entered", 2, "rest", 1), ("made", 2, (0, 0), 1),
             ("ended", 2, "full", (0, 0), 1), ("caught", 1, "spilt", (1, 0), 1), ("freed", 1, (0, 0), 0),
             ("ended", 1, "spilt", (1, 0), 1), ("caught", 0, "spilt", None, 1)]
    BARE = [("entered", 1, "rest", 0), ("entered", 2, "rest", 1), ("ended", 2, "barred", None, None),
            ("caught", 1, "barred", None, None), ("ended", 1, "", None, None)]
    PASSES = [("entered", 1, "rest", 0), ("entered", 2, "tell", 1), ("entered", 3, "rest", 2), ("made", 3, (0, 0), 0),
              ("ended", 3, "full", (0, 0), 0), ("passed", 2, "spilt"), ("passed", 1, "full"), ("caught", 0, "full", None, 0)]

    def test_by_words_that_the_helper_throws(self):
        self.each(self.THREW, (4, ("ended", 2, "spilt", (0, 0), 1)), (4, ("ended", 2, "barred", (0, 0), 1)),
                  (4, ("ended", 2, "full", None, None)), (4, ("ended", 2, "full", (0, 0), 0)), (4, ("ended", 2, "", (0, 0), 1)),
                  (7, ("ended", 1, "shut", None, None)), (7, ("ended", 1, "full", (1, 0), 1)))
        self.wrong(("entered", 1, "none", 0), ("ended", 1, "barred", None, None), ("caught", 0, "barred", None, None))
        bare = [("entered", 1, "rest", 0), ("ended", 1, "barred", None, None), ("caught", 0, "barred", None, None)]
        self.each(bare, (1, ("ended", 1, "barred", (0, 0), 0)), (1, ("ended", 1, "full", None, None)), (1, ("ended", 1, "shut", None, None)),
                  (2, ("caught", 0, "shut", None, None)), (2, ("caught", 0, "full", None, None)), (2, ("caught", 0, "barred", None, 0)),
                  (2, ("caught", 0, "barred", (0, 0), None)), (2, ("caught", 1, "barred", None, None)), (2, ("got", 0, None, 0)),
                  (2, ("passed", 0, "barred")), (2, ("broke", 0, "unnamed")), (2,))

    def test_with_a_thing_just_where_one_comes(self):
        gives = [("entered", 1, "tell", 0), ("made", 1, (0, 0), 0), ("ended", 1, "", (0, 0), 0), ("got", 0, None, 0)]
        self.each(gives, (2, ("ended", 1, "", None, None)), (2, ("ended", 1, "", (0, 0), None)), (2, ("ended", 1, "", None, 0)),
                  (3,), (3, ("caught", 0, "", None, 0)), (3, ("got", 1, None, 0)), (3, ("got", 0, (0, 0), 0)), (3, ("got", 0, None, 1)),
                  (2, ("ended", 0, "", (0, 0), 0)))
        self.wrong(*gives[:2], ("ended", 1, "", None, None))
        plain = [("entered", 1, "none", 0), ("made", 1, (0, 0), 0), ("freed", 1, (0, 0), 0), ("ended", 1, "", None, None)]
        self.right(*plain)
        self.wrong(*plain[:2], ("ended", 1, "", (0, 0), 0), ("got", 0, None, 0))
        # What is left in a pocket is no matter of a ledger.
        self.right(*plain[:2], plain[3])
        self.wrong(*ENTERED, ("got", 0, None, 0))
        self.wrong(*ENTERED, ("caught", 0, "barred", None, None))

    def test_owned_ones_alone(self):
        pacts = pacts_of([("give", 0, ("lent",), True, ("spilt",))])
        log = [("made", 0, None, 0), ("entered", 1, "give", 0), ("lent", 0, None, 0, 1, (0, 0)), ("ended", 1, "", (0, 0), 0),
               ("got", 0, None, 0)]
        self.assertFalse(is_ledger(pacts, log))
        self.assertFalse(is_ledger(pacts, [*log[:3], ("ended", 1, "spilt", (0, 0), 0), ("caught", 0, "spilt", None, 0)]))
        log[3:] = [("made", 1, (1, 0), 1), ("ended", 1, "", (1, 0), 1), ("got", 0, None, 1)]
        self.assertTrue(is_ledger(pacts, log))

    def test_of_the_last_call(self):
        for log in (self.THREW, self.BARE, self.PASSES):
            for at, entry in enumerate(log):
                for call in range(4):
                    if call != entry[1]:
                        self.wrong(*log[:at], (entry[0], call, *entry[2:]), *log[at + 1:])

    def test_behind_an_error(self):
        self.each(self.THREW, (5, ("caught", 1, "full", (1, 0), 1)), (5, ("caught", 1, "spilt", (1, 0), 0)),
                  (5, ("caught", 1, "spilt", (0, 0), 1)), (5, ("caught", 1, "spilt", None, 1)), (5, ("caught", 1, "spilt", None, None)),
                  (5, ("caught", 1, "spilt", (2, 0), 1)), (5, ("got", 1, (1, 0), 1)), (5,), (5, ("used", 1, (0, 0), 0), *self.THREW[5:6]),
                  (8, ("caught", 0, "full", None, 1)), (8, ("caught", 0, "spilt", (0, 0), 1)), (8, ("caught", 0, "spilt", None, None)),
                  (8, ("caught", 0, "spilt", None, 0)), (8,), (8, ("passed", 0, "spilt")))
        self.each(self.BARE, (3, ("caught", 1, "shut", None, None)), (3, ("caught", 1, "barred", (0, 0), 0)),
                  (3, ("caught", 1, "barred", (0, 0), None)), (3, ("caught", 1, "barred", None, 0)), (3,))

    def test_passed(self):
        self.each(self.PASSES, (5, ("passed", 2, "full")), (5, ("passed", 2, "shut")), (6, ("passed", 1, "spilt")), (6, ("passed", 2, "spilt")),
                  (5, ("passed", 2, "spilt"), ("passed", 2, "spilt")), (7, ("caught", 0, "spilt", None, 0)), (7,),
                  (7, ("passed", 0, "full")), (5,), (6, ("got", 1, (0, 1), 0)))
        self.wrong(*self.PASSES[:3], ("passed", 3, "full"))
        self.wrong(("entered", 1, "rest", 0), ("passed", 1, "full"), ("caught", 0, "full", None, None))
        # look throws nothing.
        lent = [("made", 0, None, 0), ("entered", 1, "look", 0), ("lent", 0, None, 0, 1, (0, 0)), ("entered", 2, "rest", 1),
                ("ended", 2, "barred", None, None), ("caught", 1, "shut", None, None), ("ended", 1, "", None, None)]
        self.each(lent, (5, ("passed", 1, "shut")), (5, ("passed", 1, "barred")))
        self.wrong(*lent[:5], ("passed", 1, "shut"), ("caught", 0, "shut", None, None))

    def test_what_was_lent_ends_with_its_call(self):
        for end in ([("ended", 2, "barred", None, None), ("caught", 1, "shut", None, None)],
                    [("entered", 3, "rest", 2), ("ended", 3, "barred", None, None), ("passed", 2, "barred"), ("caught", 1, "shut", None, None)]):
            log = [("entered", 1, "tell", 0), ("made", 1, (0, 0), 0), ("made", 1, (1, 0), 1), ("entered", 2, "pour", 1),
                   ("lent", 1, (0, 0), 0, 2, (0, 0)), ("gave", 1, (1, 0), 1, 2, (1, 0)), ("freed", 2, (1, 0), 1), *end,
                   ("ended", 1, "", (0, 0), 0), ("got", 0, None, 0)]
            self.right(*log)
            self.wrong(*log[:-2], ("entered", 4, "none", 1), ("used", 4, (0, 0), 0), ("ended", 4, "", None, None), *log[-2:])

    def test_at_the_end_no_call_is_open_and_nothing_is_due(self):
        for log in (ENTERED, MADE, POURED[:8], INNER, self.THREW, self.PASSES):
            self.right(*log)
            for many in range(1, len(log)):
                self.wrong(*log[:many])


class Closings(Looks):
    """A close and breaks."""

    BROKE = [("made", 0, None, 0), ("made", 0, None, 1), ("entered", 1, "pour", 0), ("lent", 0, None, 0, 1, (0, 0)),
             ("gave", 0, None, 1, 1, (1, 0)), ("made", 1, (2, 0), 2), ("entered", 2, "tell", 1), ("made", 2, (0, 0), 3),
             ("made", 2, (1, 0), 4), ("broke", 2, "full"), ("freed", 2, (0, 0), 3), ("freed", 2, (1, 0), 4), ("freed", 1, (1, 0), 1),
             ("freed", 1, (2, 0), 2), ("freed", 0, None, 0)]

    def test_in_its_order(self):
        self.right(*self.BROKE)
        head, tail = self.BROKE[:10], self.BROKE[10:]
        # Within one call any order is right.
        self.right(*head, tail[1], tail[0], *tail[2:])
        self.right(*head, tail[0], tail[1], tail[3], tail[2], tail[4])
        for at in range(5):
            self.wrong(*head, *tail[:at], *tail[at + 1:])
            self.wrong(*head, *tail[:at], tail[at], *tail[at:])
            if at < 4:
                self.wrong(*head, *[tail[at] if other == at + 1 else one for other, one in enumerate(tail)])
            for other in range(at + 1, 5):
                if (at, other) not in ((0, 1), (2, 3)):
                    changed = list(tail)
                    changed[at], changed[other] = tail[other], tail[at]
                    self.wrong(*head, *changed)

    def test_only_freed_come(self):
        for at in range(10, 16):
            for entry in (("used", 2, (0, 0), 3), ("made", 2, (2, 0), 5), ("made", 0, None, 5), ("ended", 2, "", (0, 0), 3),
                          ("entered", 3, "none", 2), ("entered", 3, "none", 0), ("broke", 2, "full"), ("broke", 1, "full"),
                          ("passed", 2, "spilt"), ("freed", 0, None, 7)):
                self.wrong(*self.BROKE[:at], entry, *self.BROKE[at:])

    def test_reasons(self):
        for reason in ("full", "empty", "stale", "lent", "kept", "out", "unnamed"):
            self.right(*self.BROKE[:9], ("broke", 2, reason), *self.BROKE[10:])
            self.right(("entered", 1, "none", 0), ("broke", 1, reason))
        for reason in ("", "Full", "none", "fulls", "done", "spilt"):
            self.wrong(*self.BROKE[:9], ("broke", 2, reason), *self.BROKE[10:])
        self.wrong(*self.BROKE[:9], ("broke", 1, "full"), *self.BROKE[10:])
        for entry in (("ended", 2, "kept", None, None), ("entered", 2, "kept", 3), ("caught", 2, "kept", None, None), ("passed", 2, "kept")):
            self.wrong(*self.BROKE[:9], entry, *self.BROKE[10:])
            self.wrong(("entered", 1, "rest", 0), ("entered", 2, "rest", 1), ("ended", 2, "barred", None, None), (entry[0], 1, *entry[2:]))
        self.wrong(("broke", 0, "full"))
        self.wrong(("broke", 1, "full"))

    def test_whose_each_thing_is(self):
        self.each(self.BROKE, (10, ("freed", 1, (0, 0), 3)), (10, ("freed", 2, None, 3)), (10, ("freed", 2, (1, 0), 3)),
                  (10, ("freed", 0, (0, 0), 3)), (12, ("freed", 2, (1, 0), 1)), (12, ("freed", 3, (1, 0), 1)),
                  (14, ("freed", 0, (0, 0), 0)), (14, ("freed", 1, (0, 0), 0)), (14, ("freed", 1, None, 0)), (14, ("freed", 0, None, 1)))

    def test_calls_that_are_not_open_any_more(self):
        log = [("entered", 1, "none", 0), ("entered", 2, "none", 1), ("ended", 2, "", None, None), ("made", 1, (0, 0), 0),
               ("broke", 1, "kept"), ("freed", 1, (0, 0), 0)]
        self.each(log, (5, ("freed", 2, (0, 0), 0)), (5, ("freed", 3, (0, 0), 0)))

    def test_calls_of_the_same_side(self):
        log = [("entered", 1, "none", 0), ("made", 1, (0, 0), 0), ("entered", 2, "none", 1), ("made", 2, (1, 0), 1), ("broke", 2, "kept")]
        # Any owned handle of its side may be a call's.
        for calls, right in (((2, 1), True), ((2, 2), True), ((1, 1), True), ((1, 2), False), ((0, 1), False), ((2, 0), True),
                             ((1, 0), True), ((0, 0), False)):
            for order in ([((0, 0), 0), ((1, 0), 1)], [((1, 0), 1), ((0, 0), 0)]):
                entries = [*log, *[("freed", call, *one) for call, one in zip(calls, order)]]
                self.assertEqual(is_ledger(PACTS, entries), right)
                self.assertEqual(plain_is_ledger(PACTS, entries), right)

    def test_what_an_error_carries(self):
        ahead = [("entered", 1, "none", 0), ("made", 1, (0, 0), 0), ("entered", 2, "rest", 1), ("made", 2, (1, 0), 1),
                 ("ended", 2, "full", (1, 0), 1)]
        for reason in ("unnamed", "kept"):
            log = [*ahead, ("broke", 1, reason), ("freed", 1, None, 1), ("freed", 1, (0, 0), 0)]
            self.each(log, (6, ("freed", 0, None, 1)), (6, ("freed", 1, (1, 0), 1)), (6, ("freed", 1, None, 0)), (6, ("freed", 2, None, 1)),
                      (5, ("broke", 2, reason)), (5, ("broke", 0, reason)), (6,), (7,))
            self.wrong(*log[:6], log[7], log[6])
            self.wrong(*log[:7], log[6], log[7])
        for reason in ("full", "empty", "stale", "lent", "out", "none"):
            self.wrong(*ahead, ("broke", 1, reason), ("freed", 1, None, 1), ("freed", 1, (0, 0), 0))
        bare = [*ahead[:3], ("ended", 2, "barred", None, None), ("broke", 1, "kept"), ("freed", 1, (0, 0), 0)]
        self.right(*bare)
        self.wrong(*bare[:5], ("freed", 1, None, 0))

    def test_the_shelves(self):
        # What a call leaves, a shelf may own.
        left = [("made", 0, None, 0), ("entered", 1, "fill", 0), ("gave", 0, None, 0, 1, (0, 0)), ("ended", 1, "", None, None),
                ("entered", 2, "none", 0), ("made", 2, (0, 0), 1), ("ended", 2, "", None, None), ("made", 0, None, 2),
                ("entered", 3, "look", 0), ("lent", 0, None, 2, 3, (1, 0)), ("ended", 3, "", None, None)]
        near, far, out = ("freed", 0, (0, 0), 0), ("freed", 0, (0, 0), 1), ("freed", 0, None, 2)
        self.right(*left)
        self.right(*left, near, far, out)
        self.right(*left, out)
        self.right(*left, out, near, far)
        for tail in ((near, far), (far, near, out), (near, out, far), (far, out), (near,), (far,), (near, far, out, out), (near, near, far, out),
                     (near, far, far, out), (out, far, near), (out, near), (near, far, out, ("entered", 4, "none", 0), ("ended", 4, "", None, None)),
                     (near, far, ("used", 3, (1, 0), 2), out), (("freed", 0, (0, 0), 2), far, out), (("freed", 0, (1, 0), 0), far, out)):
            self.wrong(*left, *tail)
        # Two owned handles of one side are no shelf's.
        two = [*left[:4], ("made", 0, None, 1), ("entered", 2, "fill", 0), ("gave", 0, None, 1, 2, (1, 0)), ("ended", 2, "", None, None)]
        self.right(*two)
        self.wrong(*two, ("freed", 0, (0, 0), 0), ("freed", 0, (1, 0), 1))
        # Where a call is open the outside lets go of nothing.
        self.wrong(*left, ("entered", 4, "none", 0), near, ("ended", 4, "", None, None))
        self.wrong(*left, ("entered", 4, "none", 0), near, far, out)
        self.wrong(*left, ("entered", 4, "none", 0), out, ("ended", 4, "", None, None))
        self.right(*left, ("entered", 4, "none", 0), ("broke", 4, "full"), near, far, out)
        self.wrong(*left, ("entered", 4, "none", 0), ("broke", 4, "full"), far, near, out)

    def test_rising_things(self):
        held = [("made", 0, None, 0), ("made", 0, None, 1), ("made", 0, None, 2), ("entered", 1, "all", 0), ("lent", 0, None, 0, 1, (0, 0)),
                ("lent", 0, None, 1, 1, (1, 0)), ("lent", 0, None, 2, 1, (2, 0)), ("ended", 1, "", None, None), ("entered", 2, "none", 0)]
        pacts = pacts_of([("all", 0, ("lent", "lent", "lent"), False, ()), ("none", 0, (), False, ())])
        for things, right in (((0, 1, 2), True), ((0, 2, 1), False), ((1, 0, 2), False), ((0, 1), False), ((), False), ((0, 0, 1), False)):
            log = [*held, ("broke", 2, "full"), *[("freed", 0, None, thing) for thing in things]]
            self.assertEqual(is_ledger(pacts, log), right)
            self.assertEqual(plain_is_ledger(pacts, log), right)
        # But in a closing they need not rise.
        self.assertTrue(is_ledger(pacts, [*held[:8], *[("freed", 0, None, thing) for thing in (1, 0, 2)]]))

    def test_lent_things_are_let_go_of_in_a_closing(self):
        log = [("entered", 1, "tell", 0), ("made", 1, (0, 0), 0), ("entered", 2, "look", 1), ("lent", 1, (0, 0), 0, 2, (1, 0)),
               ("broke", 2, "lent"), ("freed", 1, (0, 0), 0)]
        self.each(log, (5, ("freed", 2, (1, 0), 0)), (5,))
        self.right(*log[:5], ("freed", 2, (0, 0), 0))
        self.wrong(*log[:4], log[5], log[4])


class Worlds(unittest.TestCase):
    """Logs of worlds are ledgers, behind each deed; cut off they are where they may end."""

    BODIES = {"fill": "put a\ndone", "look": "pick 3\nuse a\ndone\nfree a\ndone",
              "tell": "make a\npick 3\ndone a\ncall rest on shut 5 on spilt b 7\nthrow spilt a\nfree a\nmake a\nmove b c\nfree c\nthrow spilt a",
              "pour": "use a\npick 4\nclear c\ndone b\nput b\nmake c\nthrow full c", "rest": "pick 2\nthrow barred\nmake b\nthrow full b",
              "none": "call rest\ndone"}

    def check(self, world, pacts=PACTS):
        self.assertTrue(is_ledger(pacts, world.log()))
        self.assertTrue(plain_is_ledger(pacts, world.log()))

    def test_each_kind_of_deed(self):
        bodies = {**self.BODIES, "tell": "make a\npick 3\ndone a\nthrow spilt a"}
        world = world_of(HELPERS, bodies)
        for deed in (lambda: world.call("pour"), lambda: world.call("pour", [0, None], picks=[1]), lambda: world.let_go(0),
                     lambda: world.call("look"), lambda: world.call("tell"), lambda: world.call("tell", picks=[1]),
                     lambda: world.call("rest"), lambda: world.call("rest", picks=[1]), lambda: world.swap(world.sides()[0]),
                     lambda: world.call("fill"), world.back, lambda: world.call("fill"), world.close, world.back,
                     lambda: world.call("none"), world.back, lambda: world.call("look", picks=[1])):
            deed()
            self.check(world)
        self.assertEqual(world.broken()[0], "lent")
        world.back()
        world.call("fill")
        self.assertEqual(world.broken()[0], "full")
        self.check(world)

    def test_of_other_pacts(self):
        world = world_of(HELPERS, self.BODIES)
        world.call("pour")
        self.check(world)
        # By this log alone the side of pour is not to be seen.
        for other, right in ((("pour", 0, ("lent", "given"), True, ()), True), (("pour", 1, ("given", "given"), True, ()), False),
                             (("pour", 1, ("lent", "given"), False, ()), False), (("pour", 1, ("lent",), True, ()), False),
                             (("poor", 1, ("lent", "given"), True, ()), False)):
            self.assertEqual(is_ledger(pacts_of([*HELPERS[:3], other, *HELPERS[4:]]), world.log()), right)

    def test_cut_off_at_each_place(self):
        world = world_of(HELPERS, {**self.BODIES, "tell": "make a\npick 3\ndone a\nthrow spilt a"})
        ends = {0}
        for deed in (lambda: world.call("pour"), lambda: world.call("tell"), lambda: world.call("rest"), lambda: world.let_go(0),
                     lambda: world.call("fill"), lambda: world.call("tell", picks=[1])):
            deed()
            ends.add(len(world.log()))
        world.close()
        ends.add(len(world.log()))
        log = world.log()
        for many in range(len(log) + 1):
            self.assertEqual(is_ledger(PACTS, log[:many]), many in ends, many)
            self.assertEqual(plain_is_ledger(PACTS, log[:many]), many in ends)

    def test_cut_off_behind_a_close_without_shelves(self):
        world = world_of(HELPERS, self.BODIES)
        world.call("pour")
        world.close()
        log = world.log()
        # It may as well be that both things were let go of one by one.
        self.assertEqual([many for many in range(len(log) + 1) if is_ledger(PACTS, log[:many])], [0, 8, 9, 10])


class Many(unittest.TestCase):
    def logs(self, seeds):
        for seed in seeds:
            rng = random.Random(seed)
            pacts = random_pacts(rng, most_helpers=rng.choice((2, 4)))
            sides = [shelf_side(rng, pacts, number) if rng.random() < 0.5 else random_side(rng, pacts, number, mended=0.9)
                     for number in (0, 1)]
            world = World(*sides)
            for _ in range(6):
                if not world.closed():
                    self.assertIn(refusal(do_deed, world, random_deed(rng, pacts, world.held())), (None, (TooLong,)))
                    if len(world.log()) > 250:
                        world.back()
                    self.assertTrue(is_ledger(pacts, world.log()))
            yield rng, pacts, world.log()

    def changed(self, rng, log):
        """A log in which something was changed by chance."""
        log = list(log)
        at = rng.randrange(len(log))
        entry = list(log[at])
        luck = rng.randrange(8)
        if luck == 0:
            del log[at]
        elif luck == 1:
            log.insert(rng.randrange(len(log)), log[at])
        elif luck == 2:
            other = rng.randrange(len(log))
            log[at], log[other] = log[other], log[at]
        elif luck == 3:
            return log[:at]
        else:
            place = rng.randrange(1, len(entry))
            others = [part for other in log for part in other[1:] if type(part) is type(entry[place])]
            if luck == 4:
                entry[place] = rng.choice(others)
            elif isinstance(entry[place], int):
                entry[place] += rng.choice((1, -1))
            elif isinstance(entry[place], tuple):
                entry[place] = rng.choice([None, (entry[place][0], entry[place][1] + 1), (entry[place][0] + 1, entry[place][1])])
            elif entry[place] is None:
                entry[place] = rng.choice([(0, 0), 0])
            elif entry[0] in ("lent", "gave"):
                entry[0] = "gave" if entry[0] == "lent" else "lent"
            log[at] = tuple(entry)
        return log

    def test_logs_and_changed_ones(self):
        counts = {True: 0, False: 0}
        for rng, pacts, log in self.logs(range(8000, 8150)):
            for many in range(0, len(log), 7):
                self.assertEqual(is_ledger(pacts, log[:many]), plain_is_ledger(pacts, log[:many]))
            for _ in range(30 if log else 0):
                changed = self.changed(rng, log)
                if changed and rng.random() < 0.2:
                    changed = self.changed(rng, changed)
                told = is_ledger(pacts, changed)
                self.assertEqual(told, plain_is_ledger(pacts, changed), changed)
                counts[told] += changed != log
        self.assertGreater(counts[True], 100)
        self.assertGreater(counts[False], 2000)

    def test_a_long_one(self):
        world = world_of([("many", 0, (), False, ())], {"many": "\n".join(["make a\nfree a"] * 99) + "\ndone"})
        for _ in range(40):
            world.call("many")
        log = world.log()
        pacts = Pacts([("spilt", "full", True), ("shut", "barred", False)], [("many", 0, (), False, ())])
        self.assertGreater(len(log), 7000)
        self.assertTrue(is_ledger(pacts, log))
        self.assertFalse(is_ledger(pacts, log[:-1]))


if __name__ == "__main__":
    unittest.main()
