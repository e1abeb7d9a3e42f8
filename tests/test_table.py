"""Points 2, 3 and 10: the table of handles."""

import random
import unittest

from pactford.errors import Ended, NoHandle
from pactford.table import Table

HUGE = 10 ** 40 - 1


class Plain:
    """A table told anew from the words of the document, at leisure."""

    def __init__(self):
        self.begun = []
        self.ended = []
        self.greatest = 0

    def living(self):
        return [one for one in self.begun if one[0] not in self.ended]

    def begin(self, number):
        places = [handle[0] for handle, _ in self.living()]
        place = min([one for one in range(len(places) + 1) if one not in places])
        turn = len([1 for handle, _ in self.begun if handle[0] == place])
        self.begun.append(((place, turn), number))
        self.greatest = max(self.greatest, len(self.living()))
        return (place, turn)

    def end(self, handle):
        self.ended.append(handle)
        return dict(self.begun)[handle]


def told(table):
    alive = table.alive()
    return (alive, [table.look(handle) for handle in alive], table.most(), len(table))


class Begun(unittest.TestCase):
    def test_a_new_table(self):
        self.assertEqual(told(Table()), ([], [], 0, 0))

    def test_places_from_0_on(self):
        table = Table()
        self.assertEqual([table.begin(number) for number in (7, 7, 9)], [(0, 0), (1, 0), (2, 0)])
        self.assertEqual(told(table), ([(0, 0), (1, 0), (2, 0)], [7, 7, 9], 3, 3))

    def test_a_place_that_is_free_again(self):
        table = Table()
        for turn in range(5):
            handle = table.begin(turn * 10)
            self.assertEqual(handle, (0, turn))
            self.assertEqual(table.end(handle), turn * 10)
        self.assertEqual(told(table), ([], [], 1, 0))

    def test_the_least_free_place(self):
        table = Table()
        handles = [table.begin(number) for number in range(6)]
        for place in (4, 1, 3):
            table.end(handles[place])
        self.assertEqual(table.begin(10), (1, 1))
        table.end((0, 0))
        self.assertEqual([table.begin(number) for number in (11, 12, 13, 14)], [(0, 1), (3, 1), (4, 1), (6, 0)])
        self.assertEqual(table.alive(), [(0, 1), (1, 1), (2, 0), (3, 1), (4, 1), (5, 0), (6, 0)])

    def test_turns_are_counted_by_place(self):
        table = Table()
        table.begin(0)
        for turn in range(3):
            self.assertEqual(table.begin(turn), (1, turn))
            table.end((1, turn))
        table.end((0, 0))
        self.assertEqual([table.begin(5), table.begin(6), table.begin(7)], [(0, 1), (1, 3), (2, 0)])

    def test_any_whole_number(self):
        table = Table()
        for number in (0, -1, HUGE, -HUGE):
            handle = table.begin(number=number)
            self.assertEqual(table.look(handle=handle), number)
            self.assertEqual(table.end(handle=handle), number)

    def test_kinds_of_values(self):
        table = Table()
        handle = table.begin(3)
        self.assertEqual([type(handle)] + [type(part) for part in handle], [tuple, int, int])
        self.assertIs(type(table.alive()), list)

    def test_a_look_changes_nothing(self):
        table = Table()
        table.begin(3)
        self.assertEqual([table.look((0, 0)), table.look((0, 0))], [3, 3])
        self.assertEqual(told(table), ([(0, 0)], [3], 1, 1))

    def test_most(self):
        table = Table()
        handles = [table.begin(number) for number in range(4)]
        for handle in handles[:3]:
            table.end(handle)
        self.assertEqual((table.most(), len(table)), (4, 1))
        table.begin(8)
        table.begin(9)
        self.assertEqual((table.most(), len(table)), (4, 3))
        table.begin(10)
        table.begin(11)
        self.assertEqual((table.most(), len(table)), (5, 5))


class Refused(unittest.TestCase):
    def refused(self, table, error, handle):
        ahead = told(table)
        for asked in (table.look, table.end):
            with self.subTest(asked=asked.__name__, handle=handle):
                with self.assertRaises(error) as caught:
                    asked(handle)
                self.assertEqual(caught.exception.handle, handle)
                self.assertEqual(told(table), ahead)

    def table(self):
        """Places 0 and 2 live, the second one for the second time; 1 has ended."""
        table = Table()
        for number in (5, 6, 7):
            table.begin(number)
        table.end((2, 0))
        table.end((1, 0))
        table.begin(8)
        table.begin(9)
        table.end((1, 1))
        return table

    def test_never_begun(self):
        table = self.table()
        for handle in ((3, 0), (0, 1), (1, 2), (2, 2), (HUGE, 0), (0, HUGE), (-1, 0), (0, -1), (-3, 0), (-1, -1),
                       (2, -1), (-HUGE, 0)):
            self.refused(table, NoHandle, handle)
        self.refused(Table(), NoHandle, (0, 0))

    def test_ended(self):
        table = self.table()
        for handle in ((1, 0), (1, 1), (2, 0)):
            self.refused(table, Ended, handle)
        self.assertEqual(table.begin(4), (1, 2))
        for handle in ((1, 0), (1, 1), (2, 0)):
            self.refused(table, Ended, handle)

    def test_an_end_twice(self):
        table = Table()
        handle = table.begin(0)
        self.assertEqual(table.end(handle), 0)
        self.refused(table, Ended, handle)
        self.assertEqual(table.begin(1), (0, 1))
        self.refused(table, Ended, handle)
        self.assertEqual(table.look((0, 1)), 1)

    def test_things_that_are_no_handles(self):
        table = self.table()
        table.begin(1)
        for handle in ((), (0,), (0, 0, 0), (False, 0), (0, False), (2, True), (True, 2), ("0", 0), (None, None),
                       ((0, 0), 0), [0, 0], "00", 0, None):
            self.refused(table, NoHandle, handle)

    def test_refusals_leave_the_next_handles(self):
        table = self.table()
        for handle in ((3, 0), (1, 0), (1, 1), (-1, 0)):
            with self.assertRaises((NoHandle, Ended)):
                table.end(handle)
        self.assertEqual([table.begin(1), table.begin(2)], [(1, 2), (3, 0)])


class Twins(unittest.TestCase):
    def test_tells_the_same(self):
        table = Table()
        for number in range(5):
            table.begin(number)
        for place in (3, 1, 0):
            table.end((place, 0))
        twin = table.twin()
        self.assertIsInstance(twin, Table)
        self.assertEqual(told(twin), ([(2, 0), (4, 0)], [2, 4], 5, 2))
        for handle in ((0, 0), (1, 0), (3, 0)):
            with self.assertRaises(Ended):
                twin.look(handle)
        with self.assertRaises(NoHandle):
            twin.look((5, 0))
        self.assertEqual([table.begin(9) for _ in range(5)], [twin.begin(9) for _ in range(5)])
        self.assertEqual(told(table), told(twin))

    def test_goes_on_by_itself(self):
        table = Table()
        table.begin(1)
        table.begin(2)
        table.end((0, 0))
        twin = table.twin()
        ahead = told(table)
        self.assertEqual([twin.begin(3), twin.begin(4)], [(0, 1), (2, 0)])
        self.assertEqual(twin.end((1, 0)), 2)
        self.assertEqual(told(table), ahead)
        behind = told(twin)
        self.assertEqual(table.begin(5), (0, 1))
        self.assertEqual(table.look((0, 1)), 5)
        self.assertEqual(table.end((0, 1)), 5)
        self.assertEqual(told(twin), behind)
        self.assertEqual(twin.look((0, 1)), 3)

    def test_the_greatest_count_goes_on_by_itself(self):
        table = Table()
        table.begin(1)
        twin = table.twin()
        twin.begin(2)
        self.assertEqual((table.most(), twin.most()), (1, 2))

    def test_a_twin_of_a_new_table_and_of_a_twin(self):
        twin = Table().twin().twin()
        self.assertEqual(told(twin), ([], [], 0, 0))
        self.assertEqual(twin.begin(6), (0, 0))


class Apart(unittest.TestCase):
    def test_told_lists_are_the_askers_own(self):
        table = Table()
        table.begin(1)
        table.begin(2)
        alive = table.alive()
        alive.append((7, 7))
        alive[0] = None
        self.assertEqual(table.alive(), [(0, 0), (1, 0)])
        self.assertEqual(len(table), 2)

    def test_two_tables_have_nothing_in_common(self):
        one, two = Table(), Table()
        one.begin(1)
        self.assertEqual(told(two), ([], [], 0, 0))
        self.assertEqual(two.begin(5), (0, 0))
        self.assertEqual(one.look((0, 0)), 1)


class Long(unittest.TestCase):
    def test_as_the_words_tell_over_many_steps(self):
        for seed in range(20):
            chance = random.Random(seed)
            table, plain = Table(), Plain()
            for step in range(120):
                living = plain.living()
                if living and chance.random() < 0.45:
                    handle = chance.choice(living)[0]
                    self.assertEqual(table.end(handle), plain.end(handle))
                else:
                    self.assertEqual(table.begin(step), plain.begin(step))
                if chance.random() < 0.1:
                    table = table.twin()
                alive = sorted(plain.living())
                self.assertEqual(told(table), ([one[0] for one in alive], [one[1] for one in alive],
                                               plain.greatest, len(alive)))
                for handle in plain.ended:
                    with self.assertRaises(Ended):
                        table.look(handle)

    def test_many_handles(self):
        table = Table()
        handles = [table.begin(number) for number in range(20000)]
        for handle in handles[::-1]:
            table.end(handle)
        self.assertEqual([table.begin(number) for number in range(20000)], [(place, 1) for place in range(20000)])
        self.assertEqual((len(table), table.most()), (20000, 20000))


if __name__ == "__main__":
    unittest.main()
