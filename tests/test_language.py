"""The rules of the language subset, as far as they can be seen file by file."""

import ast
import builtins
import io
import pathlib
import re
import sys
import tokenize
import unittest
import warnings

TOP = pathlib.Path(__file__).resolve().parent.parent / "pactford"
FILES = sorted(TOP.rglob("*.py"))
LIBRARY = {
    "heapq": {"heappush", "heappop", "heapify", "heapreplace", "heappushpop"},
    "math": {"gcd", "lcm", "isqrt", "comb", "perm", "factorial"},
    "itertools": {"product", "combinations", "permutations", "chain", "accumulate", "pairwise", "islice",
                  "zip_longest"},
    "collections": {"defaultdict"},
}
BUILTINS = set("""len range enumerate zip min max sum abs sorted reversed int str bool bytes list tuple dict set
    frozenset isinstance ord repr any all divmod pow getattr hasattr setattr Exception ValueError TypeError KeyError
    IndexError LookupError ZeroDivisionError ArithmeticError OverflowError RuntimeError NotImplementedError
    AttributeError StopIteration NotImplemented iter next map super property staticmethod classmethod object
    float""".split())
METHODS = set("""append clear copy count endswith extend find get index insert isalnum isalpha isdigit islower
    isspace isupper items join keys ljust lower lstrip partition pop remove replace reverse rfind rjust rpartition
    rsplit rstrip setdefault split splitlines startswith strip update upper values zfill bit_length title capitalize
    swapcase casefold center expandtabs removeprefix removesuffix rindex isascii isdecimal isnumeric istitle
    isidentifier isprintable translate add discard sort from_iterable format encode decode hex""".split())
BARRED = set("""type typing typing_extensions enum Enum IntEnum StrEnum Flag IntFlag Generic Protocol ABC ABCMeta
    namedtuple NamedTuple TypedDict TYPE_CHECKING abstractmethod register mro elements open input law version_info
    with_traceback add_note _wall _WallAttr""".split())
BARRED_NAMES = set("""attrgetter breakpoint builtins compile copyright credits delattr dir eval exec exit gc globals
    help id importlib license locals methodcaller os quit vars sys""".split())
DUNDERS = set("""__init__ __eq__ __repr__ __str__ __len__ __enter__ __exit__ __call__ __iter__ __lt__ __le__ __gt__
    __ge__ __ne__ __add__ __sub__ __mul__ __floordiv__ __mod__ __and__ __or__ __xor__ __neg__ __bool__ __contains__
    __getitem__ __setitem__ __slots__ __class__ __name__""".split())
WHOLE_AT_ONCE = ("any", "all", "min", "max", "sum", "sorted")
# L12: how no name begins, and what none is, also not with digits or underscores behind it.
BARRED_BEGINS = ("_wall", "_WallAttr", "_pe_", "_dcw_", "_enum_", "_cm_", "_twin_re_", "_lay_", "_law_", "_stub_", "_sre")
BARRED_PLAIN = r"(_cold|_tuplegetter|_outside|_record|_written_out|_member_names)[0-9_]*"
# L26: what strings, lists, dicts and the like have, and an attribute is not called either.
BARRED_ATTRIBUTES = set("""items keys values pop update append clear extend insert remove reverse setdefault sort args
    encode decode hex fromhex format format_map mro register elements open input law""".split())


def trees():
    return [(path, ast.parse(path.read_text(encoding="utf-8"))) for path in FILES]


def nodes(*kinds):
    return [(path, node) for path, tree in trees() for node in ast.walk(tree) if isinstance(node, kinds)]


def is_barred(name):
    return name.startswith(BARRED_BEGINS) or re.fullmatch(BARRED_PLAIN, name) is not None


def own_names():
    names = {node.name for _, node in nodes(ast.FunctionDef, ast.ClassDef)}
    return names | {node.attr for _, node in nodes(ast.Attribute) if isinstance(node.ctx, ast.Store)}


def bound_names():
    found = [(path, node.name, node) for path, node in nodes(ast.ClassDef, ast.FunctionDef)]
    found += [(path, node.id, node) for path, node in nodes(ast.Name) if isinstance(node.ctx, ast.Store)]
    return found + [(path, node.arg, node) for path, node in nodes(ast.arg)]


class Language(unittest.TestCase):
    def none(self, wrong):
        self.assertEqual([f"{path.name}:{getattr(node, 'lineno', node)}: {why}" for path, node, why in wrong], [])

    def test_files(self):
        for path in [one for one in TOP.rglob("*") if "__pycache__" not in one.parts]:
            self.assertTrue(path.is_dir() or path.suffix == ".py", path)
            self.assertRegex(path.stem, r"^(__init__|__main__|[a-z][a-z0-9_]*)$")
            self.assertNotIn(path.stem, set(dir(builtins)) | BARRED | BARRED_NAMES)
            self.assertFalse(path.stem.startswith(("test", "law_")) or path.stem in ("site", "conftest"), path)
            self.assertTrue(path.is_file() or (path / "__init__.py").is_file(), path)
        self.assertNotIn("pactford", sys.stdlib_module_names)

    def test_signs_and_sizes(self):
        for path in FILES:
            lines = path.read_text(encoding="utf-8").split("\n")
            self.assertLessEqual(len(lines), 399, path)
            wrong = [(path, at, "signs") for at, line in enumerate(lines, 1) if re.search(r"[^ -~]", line)]
            self.none(wrong + [(path, at, "long") for at, line in enumerate(lines, 1) if len(line) > 120])
        self.none([(path, node, "function too long") for path, node in nodes(ast.FunctionDef)
                   if node.end_lineno - node.lineno >= 40])

    def test_no_warnings(self):
        with warnings.catch_warnings():
            warnings.simplefilter("error")
            for path in FILES:
                compile(path.read_text(encoding="utf-8"), str(path), "exec")

    def test_words_and_strings(self):
        wrong = []
        for path in FILES:
            for token in tokenize.generate_tokens(io.StringIO(path.read_text(encoding="utf-8")).readline):
                at = token.start[0]
                if token.type == tokenize.NAME and token.string in BARRED:
                    wrong.append((path, at, token.string))
                if token.type == tokenize.STRING:
                    if "%" in token.string or re.search(r"\\[^nt\\'\"]", token.string):
                        wrong.append((path, at, token.string))
                    if not token.string.startswith('"""') and set(re.findall(r"\w+", token.string)) & BARRED:
                        wrong.append((path, at, token.string))
        self.none(wrong)

    def test_barred_names(self):
        for name in ("_outside", "_outside_", "_outside_2", "_cold7", "_walls", "_sre", "_srep", "_law_x"):
            self.assertTrue(is_barred(name), name)
        for name in ("outside", "_of_outside", "_outsides", "_outside_call", "_laws", "_scold", "_recorder"):
            self.assertFalse(is_barred(name), name)
        self.none([(path, token.start[0], token.string) for path in FILES
                   for token in tokenize.generate_tokens(io.StringIO(path.read_text(encoding="utf-8")).readline)
                   if token.type == tokenize.NAME and is_barred(token.string)])
        for path in FILES:
            self.assertIsNone(re.search(r"\b(_wall|_WallAttr)\b", path.read_text(encoding="utf-8")), path)

    def test_imports(self):
        wrong = [(path, node, "import") for path, node in nodes(ast.Import) if path.name != "__main__.py"]
        edges = {}
        for path, node in nodes(ast.ImportFrom):
            if node.module in LIBRARY:
                fine = {name.name for name in node.names} <= LIBRARY[node.module]
            else:
                fine = node.level == 0 and node.module.startswith("pactford.") and self.defines(node)
                edges.setdefault("pactford." + path.stem, []).append(node.module)
            if not fine or any([name.asname for name in node.names]):
                wrong.append((path, node, "import"))
        self.none(wrong)
        for start in edges:
            self.assertFalse(self.reaches(start, start, edges, 0), start)

    def test_imports_are_used(self):
        for path, tree in trees():
            used = {node.id for node in ast.walk(tree) if isinstance(node, ast.Name)}
            imported = {name.name for node in ast.walk(tree) if isinstance(node, ast.ImportFrom) for name in node.names}
            self.assertLessEqual(imported, used, path)

    def defines(self, node):
        tree = ast.parse((TOP / (node.module.split(".")[-1] + ".py")).read_text(encoding="utf-8"))
        names = {one.name for one in tree.body if isinstance(one, (ast.FunctionDef, ast.ClassDef))}
        names |= {one.targets[0].id for one in tree.body if isinstance(one, ast.Assign)}
        return {name.name for name in node.names} <= names

    def reaches(self, start, end, edges, depth):
        return depth < 100 and any([one == end or self.reaches(one, end, edges, depth + 1)
                                    for one in edges.get(start, [])])

    def test_module_level(self):
        for path, tree in trees():
            bound = []
            for at, node in enumerate(tree.body):
                docstring = at == 0 and isinstance(node, ast.Expr) and isinstance(node.value, ast.Constant)
                if isinstance(node, ast.Assign):
                    self.assertIsInstance(node.targets[0], ast.Name)
                    bound += [one.id for one in node.targets]
                elif isinstance(node, ast.ImportFrom):
                    bound += [one.name for one in node.names]
                elif not docstring:
                    self.assertIsInstance(node, (ast.FunctionDef, ast.ClassDef), path)
                    bound.append(node.name)
            self.assertEqual(sorted(bound), sorted(set(bound)), path)

    def test_statements_and_expressions(self):
        barred = (ast.Global, ast.AsyncFunctionDef, ast.AsyncFor, ast.AsyncWith, ast.Await, ast.Div)
        self.none([(path, 0, type(node).__name__) for path, node in nodes(*barred)])
        self.none([(path, node, "float") for path, node in nodes(ast.Constant) if isinstance(node.value, float)])
        self.none([(path, node, "is") for path, node in nodes(ast.Compare)
                   if any([isinstance(op, (ast.Is, ast.IsNot)) for op in node.ops])
                   and not isinstance(node.comparators[0], ast.Constant)])
        self.none([(path, node, "bare except") for path, node in nodes(ast.ExceptHandler) if node.type is None])

    def test_generator_expressions(self):
        # Pacts has an __eq__, so these are handed lists.
        self.none([(path, node, "generator expression") for path, node in nodes(ast.Call)
                   if isinstance(node.func, ast.Name) and node.func.id in WHOLE_AT_ONCE
                   and any([isinstance(one, ast.GeneratorExp) for one in node.args])])

    def test_builtins(self):
        self.none([(path, node, node.id) for path, node in nodes(ast.Name)
                   if isinstance(node.ctx, ast.Load) and hasattr(builtins, node.id) and node.id not in BUILTINS])

    def test_bound_names(self):
        imports = {path: set() for path in FILES}
        for path, node in nodes(ast.ImportFrom):
            imports[path] |= {one.name for one in node.names}
        wrong = [(path, node, name) for path, name, node in bound_names() if name not in DUNDERS
                 if hasattr(builtins, name) or name in BARRED_NAMES or name in imports[path]]
        wrong += [(path, node, name) for path, name, node in bound_names()
                  if not re.match(r"_?[A-Za-z][A-Za-z0-9_]*$|_$", name) and name not in DUNDERS]
        self.none(wrong)

    def test_methods(self):
        own = own_names()
        self.none([(path, node, node.attr) for path, node in nodes(ast.Attribute)
                   if node.attr not in own | METHODS | DUNDERS])
        for path, node in nodes(ast.ClassDef):
            methods = [one.name for one in node.body if isinstance(one, ast.FunctionDef)]
            stored = {one.attr for one in ast.walk(node) if isinstance(one, ast.Attribute)
                      and isinstance(one.ctx, ast.Store)}
            self.assertEqual(sorted(methods), sorted(set(methods)), node.name)
            self.assertFalse(set(methods) & stored, node.name)

    def test_attributes(self):
        stored = {node.attr for _, node in nodes(ast.Attribute) if isinstance(node.ctx, ast.Store)}
        methods = {one.name for _, node in nodes(ast.ClassDef) for one in node.body if isinstance(one, ast.FunctionDef)}
        self.assertFalse(stored & methods)
        self.assertFalse(stored & BARRED_ATTRIBUTES)


if __name__ == "__main__":
    unittest.main()
