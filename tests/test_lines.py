"""Point 33: lines, and the look at them."""

import random
import unittest

from making import pacts_of, refusal, side_of
from pactford import lines as lines_file
from pactford.errors import NoLetter
from pactford.lines import lines
from pactford.pacts import Pacts
from pactford.papers import is_paper, paper
from pactford.side import Side
from plain_lines import are_lines, drawn_facts, drawn_lines, lines_to
from plain_rules import PlainRules
from random_sides import random_pacts, random_side
from shelf_sides import shelf_side

PACTS = pacts_of([("only", 0, (), False, ("spilt",)), ("calm", 1, (), False, ())])
# Breaks where the shelf owns when it is filled anew: behind a call of itself, from the outside or by way of calm.
FILL = "pick 4\nmake a\nput a\ndone\ncall calm\nmake a\nput a\ndone"
BY_TOP = [
    (("top", "E"), None, None),
    (("enter", "only", "E"), 0, None),
    (("stand", "only", "E", 0, "EEEEE", "E"), 1, None),
    (("stand", "only", "E", 1, "EEEEE", "E"), 2, None),
    (("stand", "only", "E", 2, "OEEEE", "E"), 3, None),
    (("stand", "only", "E", 3, "EEEEE", "O"), 4, None),
    (("end", "only", "E", "", "O"), 5, None),
    (("top", "O"), 0, 6),
    (("enter", "only", "O"), 7, None),
    (("stand", "only", "O", 0, "EEEEE", "O"), 8, None),
    (("stand", "only", "O", 1, "EEEEE", "O"), 9, None),
    (("stand", "only", "O", 2, "OEEEE", "O"), 10, None),
    (("break", "only", "O", 2, "full"), 11, None),
]
BY_WAIT = [
    *BY_TOP[:7],
    (("stand", "only", "E", 4, "EEEEE", "E"), 2, None),
    (("wait", "only", "E", 4, "EEEEE", "E", "E"), 7, None),
    (("wait", "only", "E", 4, "EEEEE", "E", "O"), 8, 6),
    (("stand", "only", "E", 5, "EEEEE", "O"), 9, None),
    (("stand", "only", "E", 6, "OEEEE", "O"), 10, None),
    (("break", "only", "E", 6, "full"), 11, None),
]


def is_lines(*things, **named):
    told = lines_file.is_lines(*things, **named)
    assert isinstance(told, bool)
    return told


def one(*rows):
    return Side(PACTS, 0, {"only": "\n".join(rows)})


def renumbered(told, order):
    """The lines in another order of theirs."""
    numbers = {at: new for new, at in enumerate(order)}
    return [(fact, *[None if number is None else numbers[number] for number in rest])
            for fact, *rest in [told[at] for at in order]]


def drawn_order(rng, told):
    """An order in which each line stands behind those from which it follows, and the last one last."""
    order = []
    while len(order) < len(told):
        order.append(rng.choice([at for at, (_, first, second) in enumerate(told) if at not in order
                                 and (first is None or first in order) and (second is None or second in order)
                                 and (at < len(told) - 1 or len(order) == at)]))
    return order


class Told(unittest.TestCase):
    def check(self, told, begin, *, broken):
        found = lines(told, begin=begin)
        self.assertEqual(found is None, paper(told, begin=begin) is not None)
        if broken is None:
            self.assertIsNone(found)
            return
        self.assertEqual(found[-1][0][0], "break")
        self.assertEqual(found[-1][0][3:], broken)
        self.assertTrue(is_lines(told, found, begin=begin))
        self.assertTrue(are_lines(PlainRules(told), found, begin))

    def test_a_small_one(self):
        self.assertEqual(lines(one("use a", "done")), [
            (("top", "E"), None, None), (("enter", "only", "E"), 0, None),
            (("stand", "only", "E", 0, "EEEEE", "E"), 1, None), (("break", "only", "E", 0, "empty"), 2, None)])

    def test_for_each_letter(self):
        for rows, letters in (
                (("take a", "clear a", "done"), {"E": (0, "empty"), "O": (0, "empty"), "X": (0, "empty")}),
                (("make a", "put a", "done"), {"E": (1, "full"), "O": (1, "full"), "X": (1, "full")}),
                (("use shelf", "done"), {"E": (0, "empty"), "O": None, "X": (0, "stale")}),
                (("clear a", "done"), {"E": None, "O": None, "X": None}),
                (("pick 3", "make b", "done", "done"), {"E": (2, "kept"), "O": (2, "kept"), "X": (2, "kept")}),
                (("throw shut",), {"E": (0, "unnamed"), "O": (0, "unnamed"), "X": (0, "unnamed")})):
            for begin in "EOX":
                with self.subTest(rows, begin=begin):
                    self.check(one(*rows), begin, broken=letters[begin])

    def test_empty_is_the_letter_that_is_left_out(self):
        told = one("use shelf", "done")
        self.assertEqual(lines(told), lines(begin="E", side=told))
        self.assertTrue(is_lines(told, lines(told)))
        self.assertTrue(is_lines(told=lines(told), side=told, begin="E"))
        self.assertNotEqual(lines(told), lines(told, begin="X"))

    def test_of_each_side(self):
        told = side_of(PACTS, 1, {"calm": "call only on full b 1\nclear b\ndone"})
        self.check(told, "E", broken=None)
        self.check(told.changed({"calm": "call only on full a 1\nforget a\ndone"}), "E", broken=(1, "kept"))
        self.check(told.changed({"calm": "call only\ndone"}), "O", broken=(0, "unnamed"))

    def test_of_a_side_without_helpers(self):
        told = Side(Pacts([], [("calm", 1, (), False, ())]), 0, {})
        for begin in "EOX":
            self.check(told, begin, broken=None)
            self.assertFalse(is_lines(told, [(("top", begin), None, None)], begin=begin))

    def test_of_a_said_body(self):
        told = Side(PACTS, 0, {"only": "() (call calm ()) (done)"})
        self.check(told, "E", broken=None)
        told = told.changed({"only": "() (pick ((make x) (put x)) ()) (done)"})
        found = lines(told)
        self.assertEqual((found[-1][0][4], told.place("only", found[-1][0][3])), ("full", 2))
        self.assertTrue(is_lines(told, found))

    def test_no_letter(self):
        told = one("use a", "done")
        for letter in ("", "H", "U", "B", "e", "EO", "OX", " E", None, 0, True, ["E"], ("E",)):
            self.assertEqual(refusal(lines, told, begin=letter), (NoLetter, letter))
            self.assertEqual(refusal(is_lines, told, lines(told), begin=letter), (NoLetter, letter))
            self.assertEqual(refusal(is_lines, told, None, begin=letter), (NoLetter, letter))

    def test_a_told_list_is_the_askers_own(self):
        told = one("use a", "done")
        found = lines(told)
        ahead = list(found)
        found.pop()
        self.assertEqual(lines(told), ahead)

    def test_a_long_way(self):
        told = one(*["clear a"] * 198, "use a", "done")
        found = lines(told)
        self.assertEqual(len(found), 202)
        self.assertTrue(is_lines(told, found))


class Right(unittest.TestCase):
    def setUp(self):
        self.side = one(*FILL.split("\n"))

    def test_the_two(self):
        for told in (BY_TOP, BY_WAIT):
            self.assertTrue(is_lines(self.side, told))
            self.assertTrue(are_lines(PlainRules(self.side), told, "E"))

    def test_an_inner_break(self):
        told = [*BY_WAIT[:10], (("enter", "only", "O"), 9, None), *[
            (fact, at + 10, None) for at, (fact, _, _) in enumerate(BY_TOP[9:])]]
        self.assertTrue(is_lines(self.side, told))

    def test_another_order(self):
        for seed in range(30):
            rng = random.Random(seed)
            for told in (BY_TOP, BY_WAIT):
                order = drawn_order(rng, told)
                self.assertTrue(is_lines(self.side, renumbered(told, order)))
        told = renumbered(BY_WAIT, [0, 1, 2, 7, 8, 3, 4, 5, 6, 9, 10, 11, 12])
        self.assertNotEqual(told, BY_WAIT)
        self.assertTrue(is_lines(self.side, told))

    def test_facts_besides(self):
        told = [*BY_TOP[:12], (("stand", "only", "O", 4, "EEEEE", "O"), 9, None),
                (("wait", "only", "O", 4, "EEEEE", "O", "O"), 12, None), BY_TOP[12]]
        self.assertTrue(is_lines(self.side, told))
        told[13:14] = [(("stand", "only", "E", 4, "EEEEE", "E"), 2, None)]
        self.assertTrue(is_lines(self.side, told))

    def test_another_way_to_a_fact(self):
        # The shelf of a second end is O, too, and the top follows from it as well.
        told = [*BY_WAIT[:11], (("top", "O"), 0, 6), (("enter", "only", "O"), 11, None), *[
            (fact, at + 12, None) for at, (fact, _, _) in enumerate(BY_TOP[9:])]]
        self.assertTrue(is_lines(self.side, told))
        told[12] = (("enter", "only", "O"), 9, None)
        self.assertTrue(is_lines(self.side, told))

    def test_waits_on_the_own_side(self):
        pacts = pacts_of([("outer", 0, (), False, ()), ("inner", 0, ("lent",), False, ()), ("calm", 1, (), False, ())])
        side = Side(pacts, 0, {"outer": "make a\ncall inner lend a\nclear a\nuse shelf\ndone", "inner": "put a\ndone"})
        told = [(("top", "E"), None, None), (("enter", "outer", "E"), 0, None),
                (("stand", "outer", "E", 0, "EEEEE", "E"), 1, None), (("stand", "outer", "E", 1, "OEEEE", "E"), 2, None),
                (("wait", "outer", "E", 1, "OEEEE", "E", "E"), 3, None), (("enter", "inner", "E"), 4, None),
                (("stand", "inner", "E", 0, "HEEEE", "E"), 5, None), (("stand", "inner", "E", 1, "EEEEE", "H"), 6, None),
                (("end", "inner", "E", "", "H"), 7, None), (("stand", "outer", "E", 2, "OEEEE", "X"), 4, 8),
                (("stand", "outer", "E", 3, "EEEEE", "X"), 9, None), (("break", "outer", "E", 3, "stale"), 10, None)]
        self.assertEqual(lines(side)[-1][0], told[-1][0])
        self.assertTrue(is_lines(side, told))
        # The enter follows from the top just as well.
        told[5] = (("enter", "inner", "E"), 0, None)
        self.assertTrue(is_lines(side, told))
        for wrong in ((4, None), (8, 4), (4, 7), (3, 8), (None, 8), (4, 4), (8, None)):
            self.assertFalse(is_lines(side, [*told[:9], (told[9][0], *wrong), *told[10:]]))

    def test_what_is_handed_in_stays_as_it_was(self):
        told = list(BY_WAIT)
        self.assertTrue(is_lines(self.side, told))
        self.assertEqual(told, BY_WAIT)


class Wrong(unittest.TestCase):
    def setUp(self):
        self.side = one(*FILL.split("\n"))

    def wrong(self, told, *, side=None, begin="E"):
        with self.subTest(told):
            self.assertFalse(is_lines(side or self.side, told, begin=begin))

    def test_without_lines(self):
        for begin in "EOX":
            self.wrong([], begin=begin)
            self.wrong([(("top", begin), None, None)], begin=begin)

    def test_a_fact_twice(self):
        for told in (BY_TOP, BY_WAIT):
            for at in range(len(told) - 1):
                self.wrong([*told[:-1], told[at], told[-1]])
        self.wrong([*BY_TOP[:12], (BY_TOP[7][0], 7, 6), BY_TOP[12]])
        self.wrong([*BY_TOP, BY_TOP[12]])

    def test_numbers_that_are_not_ahead(self):
        for told in (BY_TOP, BY_WAIT):
            for at, (fact, first, second) in enumerate(told):
                for number in (-1, -len(told), at, at + 1, len(told), 10 ** 39, -10 ** 39):
                    self.wrong([*told[:at], (fact, number, second), *told[at + 1:]])
                    self.wrong([*told[:at], (fact, first, number), *told[at + 1:]])
                if first is not None:
                    # The very line, counted from the end.
                    self.wrong([*told[:at], (fact, first - len(told), second), *told[at + 1:]])
                    self.wrong([*told[:at], (fact, first - at, second), *told[at + 1:]])

    def test_truths_for_numbers(self):
        for told in (BY_TOP, BY_WAIT):
            for at, (fact, first, second) in enumerate(told):
                if first in (0, 1):
                    self.wrong([*told[:at], (fact, bool(first), second), *told[at + 1:]])
                self.wrong([*told[:at], (fact, first, False), *told[at + 1:]])
        self.wrong([*BY_TOP[:7], (("top", "O"), False, 6), *BY_TOP[8:]])
        self.wrong([*BY_TOP[:2], (BY_TOP[2][0], True, None), *BY_TOP[3:]])

    def test_truths_in_facts(self):
        for at, (fact, first, second) in enumerate(BY_TOP):
            for truth in (False, True):
                parts = tuple(truth if part == int(truth) and isinstance(part, int) else part for part in fact)
                self.assertEqual(parts, fact)
                if any(isinstance(part, bool) for part in parts):
                    self.wrong([*BY_TOP[:at], (parts, first, second), *BY_TOP[at + 1:]])
        told = one("clear a", "use a", "done")
        found = lines(told)
        self.assertEqual(found[-1][0], ("break", "only", "E", 1, "empty"))
        self.assertFalse(is_lines(told, [*found[:-1], (("break", "only", "E", True, "empty"), *found[-1][1:])]))

    def test_none_where_a_number_must_stand(self):
        for told in (BY_TOP, BY_WAIT):
            for at, (fact, first, second) in enumerate(told):
                if first is not None:
                    self.wrong([*told[:at], (fact, None, second), *told[at + 1:]])
                    self.wrong([*told[:at], (fact, None, None), *told[at + 1:]])
                    self.wrong([*told[:at], (fact, None, first), *told[at + 1:]])
                if second is not None:
                    self.wrong([*told[:at], (fact, first, None), *told[at + 1:]])

    def test_a_number_where_none_must_stand(self):
        for told in (BY_TOP, BY_WAIT):
            for at, (fact, first, second) in enumerate(told):
                for number in range(at):
                    if first is None:
                        self.wrong([*told[:at], (fact, number, None), *told[at + 1:]])
                    if second is None:
                        self.wrong([*told[:at], (fact, first, number), *told[at + 1:]])

    def test_other_lines_ahead(self):
        rules = PlainRules(self.side)
        for told in (BY_TOP, BY_WAIT):
            for at, (fact, first, second) in enumerate(told):
                for number in range(at):
                    for other in ((number, second), (first, number), (number, None)):
                        changed = [*told[:at], (fact, *other), *told[at + 1:]]
                        self.assertEqual(is_lines(self.side, changed), are_lines(rules, changed, "E"), changed)
        # The top from which the shelf's letter comes, and an end that belongs to another begin.
        self.wrong([*BY_TOP[:8], (BY_TOP[8][0], 0, None), *BY_TOP[9:]])

    def test_facts_that_do_not_follow(self):
        for told in (BY_TOP, BY_WAIT):
            for at in range(len(told)):
                self.wrong([(fact, first, second) if other != at else (("stand", "only", "U", 0, "EEEEE", "U"), first, second)
                            for other, (fact, first, second) in enumerate(told)])
        for fact in (("top", "X"), ("top", "E"), ("enter", "only", "X"), ("enter", "only", "O"), ("enter", "calm", "E"),
                     ("stand", "only", "E", 2, "EEEEE", "E"), ("end", "only", "E", "spilt", "E"),
                     ("wait", "only", "E", 4, "EEEEE", "E", "X")):
            for numbers in ((None, None), (0, None), (1, None), (0, 6), (6, None), (6, 6)):
                self.wrong([*BY_TOP[:12], (fact, *numbers), BY_TOP[12]])

    def test_breaks_ahead_and_none_at_last(self):
        for told in (BY_TOP, BY_WAIT):
            for many in range(len(told)):
                self.wrong(told[:many])
            self.wrong([*told, (("enter", "only", "U"), 0, None)])
        both = [*BY_TOP, *[(fact, {7: 13, 8: 14, 9: 15, 10: 16, 11: 17}.get(first, first),
                            second) for fact, first, second in BY_WAIT[7:]]]
        self.assertEqual([fact for fact, _, _ in both if fact[0] == "break"], [BY_TOP[12][0], BY_WAIT[12][0]])
        self.wrong(both)
        self.assertTrue(is_lines(self.side, renumbered(both, [*range(12), *range(13, 19), 12])[:-2] + [
            (BY_TOP[12][0], 11, None)]))

    def test_other_breaks(self):
        for fact in (("break", "only", "O", 2, "empty"), ("break", "only", "O", 1, "full"), ("break", "only", "E", 2, "full"),
                     ("break", "only", "O", 2, "fulls"), ("break", "only", "O", 2), ("break", "calm", "O", 2, "full"),
                     ("break", "only", "H", 2, "full"), ("break", "only", "O", 8, "full"), ("break", "only", "O", 2, None),
                     ("break", "only", "O", 2, "full", None), ("Break", "only", "O", 2, "full"), ("break",), ()):
            self.wrong([*BY_TOP[:12], (fact, 11, None)])

    def test_for_another_begin(self):
        for begin in "OX":
            self.wrong(BY_TOP, begin=begin)
            self.wrong(BY_WAIT, begin=begin)
            self.wrong(lines(self.side, begin=begin))
        inner = [(("top", "O"), None, None), *[(fact, at, None) for at, (fact, _, _) in enumerate(BY_TOP[8:])]]
        self.assertTrue(is_lines(self.side, inner, begin="O"))
        self.wrong(inner)
        self.wrong([(("top", "E"), None, None), *inner])
        self.wrong([inner[0], (("top", "E"), None, None), *renumbered(inner, range(6))[1:]], begin="O")

    def test_of_another_side(self):
        self.wrong(BY_TOP, side=one("clear a", "done"))
        self.wrong(BY_TOP, side=one(*FILL.replace("put a", "move a b").split("\n")))
        far = Side(pacts_of([("calm", 0, (), False, ()), ("only", 1, (), False, ("full",))]), 1, {"only": FILL})
        self.assertTrue(is_lines(far, BY_TOP))
        far = Side(PACTS, 1, {"calm": "use a\ndone"})
        self.wrong(BY_TOP, side=far)
        self.wrong(lines(far))
        self.assertTrue(is_lines(far, lines(far)))

    def test_other_forms(self):
        self.wrong([*BY_TOP[:5], list(BY_TOP[5]), *BY_TOP[6:]])
        for line in ((), BY_TOP[12][:2], (*BY_TOP[12], None), None, 7, "line", BY_TOP[12][0], (list(BY_TOP[12][0]), 11, None),
                     (None, 11, None), ("break", 11, None), (BY_TOP[12][0], "11", None), (BY_TOP[12][0], 11, "")):
            self.wrong([*BY_TOP[:12], line])
        for told in (None, tuple(BY_TOP), "", 0, {}, (), BY_TOP[0], [None], [()], [[]]):
            self.wrong(told)


class Many(unittest.TestCase):
    def sides(self, seeds):
        for seed in seeds:
            rng = random.Random(seed)
            pacts = random_pacts(rng)
            number = rng.randrange(2)
            told = shelf_side(rng, pacts, number) if rng.random() < 0.6 else random_side(rng, pacts, number)
            yield rng, told, PlainRules(told)

    def test_either_a_paper_or_lines(self):
        counts = {True: 0, False: 0}
        for rng, told, rules in self.sides(range(5000, 5200)):
            for begin in "EOX":
                found = lines(told, begin=begin)
                facts = rules.all_facts(begin)
                right = not [fact for fact in facts if fact[0] == "break"]
                counts[right] += 1
                self.assertEqual(found is None, right)
                self.assertEqual(paper(told, begin=begin) is None, not right)
                self.assertEqual(is_paper(told, list(facts), begin=begin), right)
                if not right:
                    self.assertTrue(are_lines(rules, found, begin))
                    self.assertTrue(is_lines(told, found, begin=begin))
        self.assertGreater(min(counts.values()), 100)

    def test_drawn_lines(self):
        joined = 0
        for rng, told, rules in self.sides(range(5200, 5500)):
            begin = rng.choice("EOX")
            found = drawn_lines(rng, rules, begin)
            if found is None:
                continue
            self.assertTrue(are_lines(rules, found, begin))
            self.assertTrue(is_lines(told, found, begin=begin))
            joined += any(second is not None for _, _, second in found)
            for _ in range(10):
                changed = list(found)
                at = rng.randrange(len(found))
                fact, first, second = found[at]
                changed[at] = rng.choice([
                    (fact, rng.randrange(len(found)), second), (fact, first, rng.randrange(len(found))),
                    (fact, first, None), (rng.choice(found)[0], first, second)])
                if rng.random() < 0.2:
                    del changed[rng.randrange(len(found))]
                self.assertEqual(is_lines(told, changed, begin=begin), are_lines(rules, changed, begin))
        self.assertGreater(joined, 60)

    def test_a_break_by_each_way(self):
        """Drawn lines to each break that there is are right ones."""
        reasons = set()
        for rng, told, rules in self.sides(range(5500, 5540)):
            how = drawn_facts(rng, rules, "E")
            for fact in [one for one in how if one[0] == "break"]:
                self.assertTrue(is_lines(told, lines_to(how, fact)))
                reasons.add(fact[4])
        self.assertLessEqual({"empty", "full", "kept", "unnamed"}, reasons)


if __name__ == "__main__":
    unittest.main()
