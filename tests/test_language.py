"""The rules of the language that can be counted, for the files of the package."""

import ast
import builtins
import pathlib
import re
import unittest

FOLDER = pathlib.Path(__file__).resolve().parent.parent / "plainlayout"

# L8 without `chr` (L27).
OWN_NAMES = set("""len range enumerate zip min max sum abs sorted reversed int str bool list tuple dict set frozenset
    isinstance ord repr any all divmod Exception ValueError TypeError KeyError IndexError LookupError
    ZeroDivisionError ArithmeticError OverflowError RuntimeError NotImplementedError AttributeError StopIteration
    """.split())

# L25, then the values of L26.
OWN_METHODS = set("""append clear copy count endswith extend find get index insert isalnum isalpha isdigit islower
    isspace isupper items join keys ljust lower lstrip partition pop remove replace reverse rfind rjust rpartition
    rsplit rstrip setdefault split splitlines startswith strip update upper values zfill bit_length
    count index title find get join lower upper split strip copy add discard
    __init__ __eq__ __repr__ __str__ __len__""".split())

NODES = set("""Module Expr Call Name Load Store Attribute Constant arguments arg keyword alias Import ImportFrom
    FunctionDef ClassDef Lambda Assign AugAssign AnnAssign If While For Return Break Continue Pass Raise Try
    ExceptHandler List Tuple Dict Set Subscript Slice ListComp comprehension JoinedStr FormattedValue IfExp
    BinOp UnaryOp BoolOp Compare And Or Not USub Invert Add Sub Mult FloorDiv Mod Pow BitAnd BitOr BitXor LShift RShift
    Eq NotEq Lt LtE Gt GtE Is IsNot In NotIn""".split())


# L17: what stands nowhere as a name, a method or a value, and what is no name.
UNUSED = set("""register mro elements open input version_info with_traceback add_note f_back tb_next co_names attrgetter
    breakpoint builtins compile copyright credits delattr dir eval exec exit gc getattr globals hasattr help id
    importlib license locals methodcaller os quit setattr super type vars __name__""".split())

# L17: what stands in remarks and docstrings alone.
UNWRITTEN = re.compile(r"\b(type|typing|typing_extensions|enum|Enum|IntEnum|StrEnum|Flag|IntFlag|Generic|Protocol|ABC"
                       r"|ABCMeta|namedtuple|NamedTuple|TypedDict|TYPE_CHECKING|abstractmethod)\b"
                       r"|dataclass|overload|contextmanager")

# The functions of the document's interface, with their parameters.
INTERFACE = {
    "hyphenate": ["patterns", "word"],
    "break_text": ["width", "patterns", "text"],
    "cost": ["width", "patterns", "text"],
    "greedy_text": ["width", "patterns", "text"],
    "cost_of": ["width", "patterns", "text", "counts"],
    "justify": ["width", "text"],
    "layout": ["width", "justified", "patterns", "tree"],
    "pages": ["width", "height", "justified", "patterns", "tree"],
    "page_counts": ["width", "height", "justified", "patterns", "tree"],
    "columns": ["width", "patterns", "tree"],
}


def files():
    return sorted(path for path in FOLDER.rglob("*") if path.is_file() and path.suffix != ".pyc")


def trees():
    return [(path, ast.parse(path.read_text())) for path in files()]


def imports(tree):
    return [node for node in tree.body if isinstance(node, ast.ImportFrom)]


def module_name(path):
    return "plainlayout." + path.stem


class LanguageTest(unittest.TestCase):
    def test_files(self):
        self.assertTrue((FOLDER / "__init__.py").is_file())
        for path in files():
            self.assertRegex(path.name, r"\A([a-z][a-z0-9_]*|__init__|__main__)\.py\Z")
            self.assertEqual(path.parent, FOLDER)
            self.assertFalse(path.stem.startswith("test"))
            self.assertNotIn(path.stem, dir(builtins))

    def test_signs_and_sizes(self):
        for path in files():
            text = path.read_bytes().decode("utf-8")
            self.assertRegex(text, r"\A[ -~\n]*\Z")
            rows = text.split("\n")
            self.assertLessEqual(len(rows), 399, path)
            self.assertLessEqual(max(len(row) for row in rows), 120, path)

    def test_functions_are_short(self):
        for path, tree in trees():
            for node in ast.walk(tree):
                if isinstance(node, ast.FunctionDef):
                    self.assertLessEqual(node.end_lineno - node.lineno + 1, 40, (path.name, node.name))
                    self.assertEqual(node.decorator_list, [])

    def test_the_parts_of_the_language(self):
        for path, tree in trees():
            for node in ast.walk(tree):
                place = (path.name, getattr(node, "lineno", 0), type(node).__name__)
                self.assertIn(type(node).__name__, NODES, place)
                if isinstance(node, ast.Constant):
                    self.assertNotIsInstance(node.value, (float, bytes, complex), place)
                if isinstance(node, (ast.For, ast.While)):
                    self.assertEqual(node.orelse, [], place)
                if isinstance(node, ast.Assign):
                    self.assertEqual(len(node.targets), 1, place)
                if isinstance(node, ast.Try):
                    self.assertEqual(node.finalbody, [], place)

    def test_names(self):
        for path, tree in trees():
            bound = {alias.asname or alias.name for node in imports(tree) for alias in node.names}
            classes = {node.name for node in tree.body if isinstance(node, ast.ClassDef)}
            taken = bound | classes | set(dir(builtins))
            defined = {node.name for node in ast.walk(tree) if isinstance(node, (ast.FunctionDef, ast.ClassDef))}
            stored = {node.id for node in ast.walk(tree) if isinstance(node, ast.Name) and
                      isinstance(node.ctx, ast.Store)}
            stored |= {node.arg for node in ast.walk(tree) if isinstance(node, ast.arg)}
            stored |= {node.name for node in ast.walk(tree) if isinstance(node, ast.ExceptHandler) and node.name}
            self.assertEqual(stored & taken, set(), path.name)
            for name in stored | defined:
                self.assertTrue(re.match("[A-Za-z]", name) or name in OWN_METHODS, (path.name, name))
            used = {node.id for node in ast.walk(tree) if isinstance(node, ast.Name)}
            allowed = OWN_NAMES | ({"print", "sys", "__name__"} if path.stem == "__main__" else set())
            self.assertEqual(used - stored - defined - bound - allowed, set(), path.name)

    def test_methods_of_pythons_own_values(self):
        others = set()
        for kind in (str, int, list, tuple, dict, set, bytes):
            others |= set(dir(kind))
        for path, tree in trees():
            for node in ast.walk(tree):
                if isinstance(node, ast.Attribute):
                    self.assertNotIn(node.attr, others - OWN_METHODS, (path.name, node.lineno))

    def test_the_top_of_a_file(self):
        for path, tree in trees():
            functions = {node.name for node in tree.body if isinstance(node, ast.FunctionDef)}
            bound = [node.name for node in tree.body if isinstance(node, (ast.FunctionDef, ast.ClassDef))]
            for node in tree.body[1:]:
                self.assertIsInstance(node, (ast.ImportFrom, ast.FunctionDef, ast.ClassDef, ast.Assign), path.name)
                if isinstance(node, ast.Assign):
                    bound.append(node.targets[0].id)
                    names = {part.id for part in ast.walk(node.value) if isinstance(part, ast.Name)}
                    self.assertLessEqual(names, functions, (path.name, bound[-1]))
                    for part in ast.walk(node.value):
                        self.assertNotIsInstance(part, (ast.Call, ast.Attribute, ast.List, ast.Set, ast.ListComp))
            self.assertEqual(len(bound), len(set(bound)), path.name)

    def test_words_that_are_not_used(self):
        for path, tree in trees():
            for node in ast.walk(tree):
                for name in (getattr(node, field, None) for field in ("id", "attr", "arg", "name")):
                    self.assertNotIn(name, UNUSED, path.name)
                    self.assertIsNone(isinstance(name, str) and UNWRITTEN.search(name) or None, (path.name, name))
                if isinstance(node, ast.Constant) and isinstance(node.value, str):
                    self.assertNotIn("%", node.value, path.name)
                    if not node.value.endswith("."):
                        self.assertIsNone(UNWRITTEN.search(node.value), (path.name, node.value))

    def test_methods_and_values_have_names_of_their_own(self):
        methods = set()
        values = set()
        for path, tree in trees():
            for kind in (node for node in tree.body if isinstance(node, ast.ClassDef)):
                own = [node.name for node in kind.body]
                self.assertEqual(len(own), len(set(own)), kind.name)
                self.assertLessEqual(len(kind.bases), 1)
                methods |= set(own)
            for node in ast.walk(tree):
                if isinstance(node, ast.Attribute) and isinstance(node.ctx, ast.Store):
                    # A value is given through a local name.
                    self.assertIsInstance(node.value, ast.Name, path.name)
                    values.add(node.attr)
        self.assertEqual(methods & values, set())

    def test_imports(self):
        drawn = {}
        defined = {}
        for path, tree in trees():
            name = module_name(path)
            defined[name] = {node.name for node in tree.body if isinstance(node, (ast.FunctionDef, ast.ClassDef))}
            defined[name] |= {node.targets[0].id for node in tree.body if isinstance(node, ast.Assign)}
            drawn[name] = imports(tree)
            for node in ast.walk(tree):
                if isinstance(node, ast.Import):
                    self.assertEqual((path.stem, [alias.name for alias in node.names]), ("__main__", ["sys"]))
        for name in drawn:
            for node in drawn[name]:
                self.assertEqual(node.level, 0)
                for alias in node.names:
                    self.assertIn(alias.name, defined[node.module], name)
        for name in drawn:
            self.assertNotIn(name, self.reached(drawn, name))

    def test_the_interface_stands_in_its_own_file(self):
        found = {}
        for path, tree in trees():
            for node in tree.body:
                if isinstance(node, (ast.FunctionDef, ast.ClassDef)) and node.name in INTERFACE:
                    self.assertEqual(path.stem, "typesetting", node.name)
                    self.assertEqual(node.args.defaults, [], node.name)
                    found[node.name] = [parameter.arg for parameter in node.args.args]
        self.assertEqual(found, INTERFACE)

    def reached(self, drawn, name):
        found = set()
        waiting = [name]
        while waiting:
            for node in drawn[waiting.pop()]:
                if node.module not in found:
                    found.add(node.module)
                    waiting.append(node.module)
        return found


if __name__ == "__main__":
    unittest.main()
