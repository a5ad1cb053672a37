"""The main rules of the language subset, over the files of the package."""

import ast
import builtins
import io
import pathlib
import re
import tokenize
import unittest

PACKAGE = pathlib.Path(__file__).resolve().parent.parent / "lineworks"

BUILTINS = set(
    "len range enumerate zip min max sum abs sorted reversed int str bool list tuple dict set isinstance ord repr any"
    " all divmod super ValueError KeyError".split()
)
METHODS = set(
    "append clear copy count endswith extend find get index insert isalnum isalpha isdigit islower isspace isupper"
    " items join keys ljust lower lstrip partition pop remove replace reverse rfind rjust rpartition rsplit rstrip"
    " setdefault split splitlines startswith strip update upper values zfill bit_length".split()
)
BARRED_NAMES = set(
    "register mro elements open input law version_info with_traceback add_note attrgetter breakpoint builtins compile"
    " copyright credits delattr dir eval exec exit gc getattr globals hasattr help id importlib license locals"
    " methodcaller os quit setattr type vars sys".split()
)
BARRED_WORDS = set(
    "type typing typing_extensions enum Enum IntEnum StrEnum Flag IntFlag Generic Protocol ABC ABCMeta namedtuple"
    " NamedTuple TypedDict TYPE_CHECKING abstractmethod dataclass overload contextmanager".split()
)
# What may be imported from elsewhere.
LIBRARY = {"math": ("gcd", "factorial")}
# Nothing in the package needs these.
BARRED_NODES = (
    ast.Global, ast.Nonlocal, ast.AsyncFunctionDef, ast.Await, ast.Yield, ast.YieldFrom, ast.GeneratorExp, ast.Div,
    ast.MatMult, ast.With, ast.Lambda, ast.NamedExpr, ast.Match, ast.AnnAssign, ast.Delete, ast.Import, ast.Assert,
    ast.TryStar,
)


def sources():
    return {path.stem: path.read_text() for path in sorted(PACKAGE.glob("*.py"))}


def trees():
    return {name: ast.parse(text) for name, text in sources().items()}


def imports(tree):
    """Returns the imports from files of the package."""
    return [node for node in tree.body if isinstance(node, ast.ImportFrom) and node.module not in LIBRARY]


def library_names(tree):
    """Returns the names that are imported from elsewhere."""
    found = [node for node in tree.body if isinstance(node, ast.ImportFrom) and node.module in LIBRARY]
    return [(node.module, alias.name, alias.asname) for node in found for alias in node.names]


def nodes(tree, *kinds):
    return [node for node in ast.walk(tree) if isinstance(node, kinds)]


def bound_names(tree):
    """Returns all names that a file gives a meaning to, but for attributes."""
    names = [node.id for node in nodes(tree, ast.Name) if isinstance(node.ctx, ast.Store)]
    names += [node.name for node in nodes(tree, ast.FunctionDef, ast.ClassDef)]
    names += [node.arg for node in nodes(tree, ast.arg)]
    names += [node.name for node in nodes(tree, ast.ExceptHandler) if node.name]
    return names


class Files(unittest.TestCase):
    def test_the_folder(self):
        for path in PACKAGE.iterdir():
            if path.name != "__pycache__":
                self.assertRegex(path.name, r"\A([a-z][a-z0-9_]*|__init__)\.py\Z")

    def test_sizes_and_characters(self):
        for name, text in sources().items():
            lines = text.split("\n")
            self.assertLessEqual(len(lines), 399, name)
            self.assertLessEqual(max(len(line) for line in lines), 120, name)
            self.assertEqual([sign for sign in text if sign != "\n" and not " " <= sign <= "~"], [], name)

    def test_functions_are_short(self):
        for name, tree in trees().items():
            for node in nodes(tree, ast.FunctionDef):
                self.assertLessEqual(node.end_lineno - node.lineno + 1, 40, (name, node.name))

    def test_strings(self):
        for name, text in sources().items():
            for token in tokenize.generate_tokens(io.StringIO(text).readline):
                if token.type == tokenize.STRING:
                    self.assertNotIn("%", token.string, name)
                    self.assertEqual(re.sub(r"\\[nt\\'\"]", "", token.string).count("\\"), 0, name)
                    if not token.string.startswith('"""'):
                        self.assertEqual(BARRED_WORDS & set(re.findall(r"\w+", token.string)), set(), name)


class Modules(unittest.TestCase):
    def test_module_level(self):
        for name, tree in trees().items():
            for at, node in enumerate(tree.body):
                if at == 0:
                    self.assertIsInstance(node, ast.Expr, name)
                    self.assertIsInstance(node.value.value, str, name)
                    continue
                self.assertIsInstance(node, (ast.ImportFrom, ast.FunctionDef, ast.ClassDef, ast.Assign), name)
                if isinstance(node, ast.Assign):
                    self.assertEqual(nodes(node.value, ast.Call, ast.BinOp, ast.Set), [], name)

    def test_imports_name_the_file_that_defines(self):
        defined = {name: [node.name for node in tree.body if isinstance(node, (ast.FunctionDef, ast.ClassDef))]
                   + [node.targets[0].id for node in tree.body if isinstance(node, ast.Assign)]
                   for name, tree in trees().items()}
        for name, tree in trees().items():
            for node in imports(tree):
                self.assertRegex(node.module, r"\Alineworks\.[a-z]+\Z", name)
                self.assertEqual(node.level, 0, name)
                for alias in node.names:
                    self.assertIsNone(alias.asname, name)
                    self.assertIn(alias.name, defined[node.module.split(".")[1]], name)

    def test_no_two_files_import_from_each_other(self):
        left = {name: {node.module.split(".")[1] for node in imports(tree)} for name, tree in trees().items()}
        while left:
            free = [name for name in left if not left[name] & set(left)]
            self.assertNotEqual(free, [], left)
            for name in free:
                del left[name]

    def test_the_library_is_only_called(self):
        for name, tree in trees().items():
            words = [word for _, word, _ in library_names(tree)]
            for module, word, asname in library_names(tree):
                self.assertIn(word, LIBRARY[module], name)
                self.assertIsNone(asname, name)
            called = [node.func for node in nodes(tree, ast.Call) if not node.keywords]
            used = [node for node in nodes(tree, ast.Name) if node.id in words]
            self.assertEqual([node.lineno for node in used if node not in called], [], name)

    def test_one_binding_for_each_name(self):
        for name, tree in trees().items():
            bound = [alias.name for node in imports(tree) for alias in node.names]
            bound += [word for _, word, _ in library_names(tree)]
            imported = bound + [node.name for node in tree.body if isinstance(node, ast.ClassDef)]
            for node in tree.body:
                if isinstance(node, (ast.FunctionDef, ast.ClassDef)):
                    bound.append(node.name)
                if isinstance(node, ast.Assign):
                    bound.append(node.targets[0].id)
            self.assertEqual(len(bound), len(set(bound)), name)
            inside = [node.id for node in nodes(tree, ast.Name) if isinstance(node.ctx, ast.Store)]
            inside += [node.arg for node in nodes(tree, ast.arg)]
            self.assertEqual([word for word in inside if word in imported], [], name)


class Code(unittest.TestCase):
    def test_statements_and_expressions(self):
        for name, tree in trees().items():
            self.assertEqual([ast.dump(node) for node in nodes(tree, *BARRED_NODES)], [], name)
            self.assertEqual([node.lineno for node in nodes(tree, ast.Constant) if isinstance(node.value, float)], [])
            for node in nodes(tree, ast.FunctionDef, ast.ClassDef):
                self.assertEqual(node.decorator_list, [], (name, node.name))
            for node in nodes(tree, ast.Call):
                stars = [part.value for part in node.args if isinstance(part, ast.Starred)]
                self.assertEqual([part.lineno for part in stars if not isinstance(part, ast.Name)], [], name)
            for node in nodes(tree, ast.Try):
                self.assertEqual([caught.type.id for caught in node.handlers if caught.type.id not in
                                  ("Problem", "SourceError")], [], name)

    def test_names(self):
        standard = set(dir(builtins))
        for name, tree in trees().items():
            for word in bound_names(tree):
                self.assertNotIn(word, standard, name)
                self.assertNotIn(word, BARRED_NAMES, name)
                self.assertTrue(word == "__init__" or not word.startswith("__"), (name, word))
            for node in nodes(tree, ast.Attribute):
                self.assertNotIn(node.attr, BARRED_NAMES, name)

    def test_builtins(self):
        standard = set(dir(builtins))
        for name, tree in trees().items():
            called = [node.func.id for node in nodes(tree, ast.Call) if isinstance(node.func, ast.Name)]
            for node in nodes(tree, ast.Name):
                if node.id in standard:
                    self.assertIn(node.id, BUILTINS, (name, node.lineno))
                    self.assertTrue(node.id in called or node.id in ("int", "str", "bool", "list", "ValueError"),
                                    (name, node.lineno))

    def test_methods(self):
        own = {node.name for tree in trees().values() for kind in nodes(tree, ast.ClassDef) for node in kind.body
               if isinstance(node, ast.FunctionDef)}
        # Those of the interface alone. The package does not call them.
        shared = {"__init__", "add", "remove"}
        self.assertEqual(own & (set(dir(str)) | set(dir(list)) | set(dir(dict)) | set(dir(int)) | set(dir(set))), shared)
        for name, tree in trees().items():
            for node in nodes(tree, ast.Call):
                if isinstance(node.func, ast.Attribute):
                    self.assertIn(node.func.attr, METHODS | own, (name, node.lineno))
                    if node.func.attr == "join":
                        self.assertIsInstance(node.func.value, ast.Constant, (name, node.lineno))

    def test_attributes(self):
        barred = set("items keys values pop update append clear extend insert remove reverse setdefault sort args encode"
                     " decode hex fromhex format".split())
        for name, tree in trees().items():
            for kind in nodes(tree, ast.ClassDef):
                methods = {node.name for node in kind.body if isinstance(node, ast.FunctionDef)}
                given = {node.attr for node in nodes(kind, ast.Attribute) if isinstance(node.ctx, ast.Store)}
                self.assertEqual(given & (methods | barred), set(), (name, kind.name))
            for node in nodes(tree, ast.Call):
                if isinstance(node.func, ast.Attribute):
                    self.assertNotIn(node.func.attr, ("add", "remove"), (name, node.lineno))

    def test_is_and_sets(self):
        for name, tree in trees().items():
            for node in nodes(tree, ast.Compare):
                for operator, right in zip(node.ops, node.comparators):
                    if isinstance(operator, (ast.Is, ast.IsNot)):
                        self.assertIsInstance(right, ast.Constant, (name, node.lineno))
            called = [node for node in nodes(tree, ast.Call) if isinstance(node.func, ast.Name)]
            used = [node.args[0] for node in called if node.func.id in ("len", "sorted") and not node.keywords]
            made = nodes(tree, ast.SetComp) + [node for node in called if node.func.id == "set"]
            self.assertEqual([node.lineno for node in nodes(tree, ast.Set)], [], name)
            self.assertEqual([node.lineno for node in made if node not in used], [], name)

    def test_strings_within_strings(self):
        for name, tree in trees().items():
            for node in nodes(tree, ast.JoinedStr):
                for part in node.values:
                    inner = nodes(part.value, ast.Constant) if isinstance(part, ast.FormattedValue) else []
                    self.assertEqual([leaf.value for leaf in inner if isinstance(leaf.value, str)], [], name)


if __name__ == "__main__":
    unittest.main()
