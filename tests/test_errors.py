"""Point 3 and the section pactford/errors.py of the interface."""

import inspect
import unittest

from pactford import errors

VALUES = {
    "NoWord": ("word",),
    "NoPact": ("at",),
    "NoText": ("at",),
    "NoHelper": ("name",),
    "NoHandle": ("handle",),
    "Ended": ("handle",),
    "NoBody": ("name", "at"),
    "NoRow": ("at",),
    "NoSide": ("at",),
    "NoThing": ("at",),
    "NoLetter": ("letter",),
    "Unlet": ("side", "lines"),
}
OF_TEXT = ("Closed", "TooLong", "TooDeep", "NothingDone", "NoLines")
SAMPLES = {
    "word": "spilt",
    "at": 3,
    "name": "pour",
    "handle": (1, 2),
    "letter": "B",
    "side": 1,
    "lines": [(("top", "E"), None, None)],
}


class Classes(unittest.TestCase):
    def test_all_seventeen_and_no_other(self):
        told = [name for name, one in inspect.getmembers(errors, inspect.isclass)]
        self.assertEqual(sorted(told), sorted([*VALUES, *OF_TEXT, "PactError"]))
        self.assertEqual(len(told), 18)

    def test_pact_error_is_straight_beneath_value_error(self):
        self.assertEqual(errors.PactError.__bases__, (ValueError,))

    def test_each_is_straight_beneath_pact_error(self):
        for name in [*VALUES, *OF_TEXT]:
            with self.subTest(name):
                self.assertEqual(getattr(errors, name).__bases__, (errors.PactError,))

    def test_each_is_defined_in_the_file(self):
        for name in [*VALUES, *OF_TEXT, "PactError"]:
            with self.subTest(name):
                self.assertEqual(getattr(errors, name).__module__, "pactford.errors")


class Values(unittest.TestCase):
    def check(self, error, told):
        for name, value in told.items():
            self.assertEqual(getattr(error, name), value)
            self.assertIs(type(getattr(error, name)), type(value))

    def test_by_places(self):
        for name, names in VALUES.items():
            with self.subTest(name):
                told = {one: SAMPLES[one] for one in names}
                self.check(getattr(errors, name)(*told.values()), told)

    def test_by_names(self):
        for name, names in VALUES.items():
            with self.subTest(name):
                told = {one: SAMPLES[one] for one in reversed(names)}
                self.check(getattr(errors, name)(**told), told)

    def test_any_texts_and_whole_numbers(self):
        huge = 10 ** 40 - 1
        for value in ("", "Any Text\n{at}", -1, 0, huge, -huge):
            for name, names in VALUES.items():
                if not {"handle", "lines"} & set(names):
                    with self.subTest(name, value=value):
                        told = {one: value for one in names}
                        self.check(getattr(errors, name)(**told), told)

    def test_any_tuple_as_a_handle(self):
        for handle in ((), (1,), (0, 0), (-1, 5, "x"), ((1, 2), None, True)):
            for made in (errors.NoHandle, errors.Ended):
                with self.subTest(made.__name__, handle=handle):
                    self.check(made(handle), {"handle": handle})

    def test_any_list_as_lines(self):
        for lines in ([], [1, "a"], [(("top", "E"), None, None), [2, [3]]]):
            with self.subTest(lines=lines):
                self.check(errors.Unlet(0, lines), {"side": 0, "lines": lines})

    def test_made_of_one_text(self):
        for name in OF_TEXT:
            with self.subTest(name):
                self.assertIn("some words", str(getattr(errors, name)("some words")))

    def test_wrong_counts_are_not_taken(self):
        for name, names in VALUES.items():
            with self.subTest(name):
                with self.assertRaises(TypeError):
                    getattr(errors, name)()
                with self.assertRaises(TypeError):
                    getattr(errors, name)(*[1 for _ in names], 1)

    def test_a_handle_is_kept_apart_from_a_list_in_it(self):
        for made in (errors.NoHandle, errors.Ended):
            inner = [1]
            error = made((0, inner))
            inner.append(2)
            self.assertEqual(error.handle, (0, [1]))

    def test_lines_are_kept_apart_from_the_list_handed_in(self):
        inner = [2]
        lines = [1, inner, ([3],)]
        error = errors.Unlet(1, lines)
        lines.append(4)
        inner.append(5)
        lines[2][0].append(6)
        self.assertEqual(error.lines, [1, [2], ([3],)])
        error.lines.append(7)
        self.assertEqual(lines, [1, [2, 5], ([3, 6],), 4])


class Raised(unittest.TestCase):
    def test_caught_as_any_refusal_and_as_a_value_error(self):
        for name, names in VALUES.items():
            error = getattr(errors, name)(*[SAMPLES[one] for one in names])
            for above in (errors.PactError, ValueError):
                with self.subTest(name, above=above), self.assertRaises(above):
                    raise error

    def test_none_is_caught_as_another(self):
        for name in [*VALUES, *OF_TEXT]:
            for other in [*VALUES, *OF_TEXT]:
                if name != other:
                    with self.subTest(name, other=other):
                        beneath = issubclass(getattr(errors, name), getattr(errors, other))
                        self.assertFalse(beneath)


if __name__ == "__main__":
    unittest.main()
