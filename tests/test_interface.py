"""The interface: names, arguments and places of definition."""

import importlib
import inspect
import unittest

ERRORS = {
    "NoWord": "(word)", "NoPact": "(at)", "NoText": "(at)", "NoHelper": "(name)", "NoHandle": "(handle)",
    "Ended": "(handle)", "NoBody": "(name, at)", "NoRow": "(at)", "NoSide": "(at)", "NoThing": "(at)",
    "NoLetter": "(letter)", "Unlet": "(side, lines)",
}
CLASSES = {
    "pactford.pacts.Pacts": ("(pairs, helpers)", {
        "pairs": "(self)", "names": "(self, side)", "pact": "(self, name)", "laden": "(self, word, *, side)",
        "over": "(self, word, *, side)", "errors": "(self, name, *, side)",
        "__len__": "(self)", "__eq__": "(self, other)", "__str__": "(self)",
    }),
    "pactford.table.Table": ("()", {
        "begin": "(self, number)", "look": "(self, handle)", "end": "(self, handle)", "alive": "(self)",
        "most": "(self)", "twin": "(self)", "__len__": "(self)",
    }),
    "pactford.side.Side": ("(pacts, number, bodies)", {
        "pacts": "(self)", "number": "(self)", "body": "(self, name)", "rows": "(self, name)",
        "place": "(self, name, row)", "changed": "(self, bodies)", "__eq__": "(self, other)",
    }),
    "pactford.world.World": ("(near, far)", {
        "call": "(self, name, things=(), *, picks=(), most=200)", "let_go": "(self, thing)", "swap": "(self, side)",
        "close": "(self)", "back": "(self)", "held": "(self)", "shelf": "(self, number)", "closed": "(self)",
        "broken": "(self)", "log": "(self)", "story": "(self)", "double": "(self)", "__len__": "(self)",
        "__eq__": "(self, other)",
    }),
    "pactford.house.House": ("(pacts, bodies)", {
        "put": "(self, bodies)", "let_go": "(self, thing)", "close": "(self)", "back": "(self)",
        "call": "(self, name, things=(), *, picks=(), most=200)", "body": "(self, name)", "held": "(self)",
        "shelf": "(self, number)", "closed": "(self)", "log": "(self)", "story": "(self)", "journal": "(self)",
        "__len__": "(self)",
    }),
    **{"pactford.errors." + name: (form, {"__init__": "(self, " + form[1:]}) for name, form in ERRORS.items()},
}
FUNCTIONS = {
    "pactford.pacts.read_pacts": "(text)", "pactford.plain.plain_run": "(near, far, deeds)",
    "pactford.papers.paper": "(side, *, begin='E')", "pactford.papers.is_paper": "(side, facts, *, begin='E')",
    "pactford.lines.lines": "(side, *, begin='E')", "pactford.lines.is_lines": "(side, told, *, begin='E')",
    "pactford.roads.partner": "(side)", "pactford.roads.road": "(side, told)", "pactford.roads.linked": "(near, far)",
    "pactford.ledger.is_ledger": "(pacts, log)",
}
VALUES = {"pactford.world.CALLS": 200, "pactford.papers.EMPTY": "E"}


def found(path):
    module, name = path.rsplit(".", 1)
    return getattr(importlib.import_module(module), name)


class Interface(unittest.TestCase):
    def test_each_stands_in_its_file(self):
        for path in [*CLASSES, *FUNCTIONS]:
            with self.subTest(path):
                self.assertEqual(found(path).__module__, path.rsplit(".", 1)[0])

    def test_classes_and_their_own_methods(self):
        for path, (form, methods) in CLASSES.items():
            with self.subTest(path):
                self.assertEqual(str(inspect.signature(found(path))), form)
            for name, told in methods.items():
                with self.subTest(path, name=name):
                    self.assertIn(name, vars(found(path)))
                    self.assertEqual(str(inspect.signature(vars(found(path))[name])), told)

    def test_functions(self):
        for path, form in FUNCTIONS.items():
            with self.subTest(path):
                self.assertEqual(str(inspect.signature(found(path))), form)

    def test_values(self):
        for path, value in VALUES.items():
            with self.subTest(path):
                self.assertEqual(found(path), value)


if __name__ == "__main__":
    unittest.main()
