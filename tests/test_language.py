"""The rules of the language subset that can be seen from the files of the package alone."""

import ast
import builtins
import pathlib
import re
import unittest

FOLDER = pathlib.Path(__file__).resolve().parent.parent / "deltawires"
BUILTINS = set(
    "len range enumerate zip min max sum abs sorted reversed int str bool bytes list tuple dict set frozenset"
    " isinstance ord repr any all divmod iter next super property staticmethod classmethod object float"
    " Exception ValueError TypeError KeyError IndexError LookupError ZeroDivisionError ArithmeticError"
    " OverflowError RuntimeError NotImplementedError AttributeError StopIteration NotImplemented".split()
)
BARRED_WORDS = (
    "type typing typing_extensions enum Enum IntEnum StrEnum Flag IntFlag Generic Protocol ABC ABCMeta namedtuple"
    " NamedTuple TypedDict TYPE_CHECKING abstractmethod".split()
)
BARRED_ANYWHERE = ("dataclass", "overload", "contextmanager")
BARRED_NAMES = set(
    "register mro elements open input law version_info with_traceback add_note attrgetter breakpoint builtins compile"
    " copyright credits delattr dir eval exec exit gc getattr globals hasattr help id importlib license locals"
    " methodcaller os quit setattr type vars sys".split()
)
BARRED_NODES = (
    ast.Global, ast.AsyncFunctionDef, ast.AsyncFor, ast.AsyncWith, ast.Await, ast.Import, ast.Div, ast.MatMult,
)
SPECIAL = re.compile(r"__[a-z]+__")
VALUE_METHODS = set(
    "append clear copy count endswith extend find get index insert isalnum isalpha isdigit islower isspace isupper"
    " items join keys ljust lower lstrip partition pop remove replace reverse rfind rjust rpartition rsplit rstrip"
    " setdefault split splitlines startswith strip update upper values zfill bit_length removeprefix".split()
)
BARRED_ATTRIBUTES = set(
    "items keys values pop update append clear extend insert remove reverse setdefault sort args encode decode hex"
    " fromhex format".split()
)
OVER_LISTS = ("any", "all", "min", "max", "sum", "sorted")
CAUGHT_OF_PYTHON = ("KeyError", "ZeroDivisionError")


def files():
    """The files of the package, without what Python writes there by itself."""
    return sorted(path for path in FOLDER.rglob("*") if path.is_file() and "__pycache__" not in path.parts)


def bound_names(tree):
    for node in ast.walk(tree):
        if isinstance(node, (ast.FunctionDef, ast.ClassDef)):
            yield node.name
        elif isinstance(node, ast.arg):
            yield node.arg
        elif isinstance(node, ast.Name) and isinstance(node.ctx, ast.Store):
            yield node.id
        elif isinstance(node, ast.alias):
            yield node.asname or node.name


class Package(unittest.TestCase):
    def setUp(self):
        self.texts = {path.name: path.read_text(encoding="utf-8") for path in files()}
        self.trees = {name: ast.parse(text) for name, text in self.texts.items()}

    def nodes(self):
        for name, tree in self.trees.items():
            for node in ast.walk(tree):
                yield f"{name}:{getattr(node, 'lineno', 0)}", node


class Language(Package):
    def test_files(self):
        self.assertIn("__init__.py", self.texts)
        for path in files():
            self.assertEqual(path.parent, FOLDER)
            self.assertRegex(path.name, r"\A[a-z0-9_]+\.py\Z")

    def test_sizes_and_signs(self):
        for name, text in self.texts.items():
            lines = text.split("\n")
            self.assertLessEqual(len(lines), 400, name)
            for at, line in enumerate(lines, start=1):
                self.assertLessEqual(len(line), 120, f"{name}:{at}")
                self.assertRegex(line, r"\A[ -~]*\Z", f"{name}:{at}")
        for where, node in self.nodes():
            if isinstance(node, ast.FunctionDef):
                self.assertLess(node.end_lineno - node.lineno, 40, where)

    def test_imports(self):
        for name, tree in self.trees.items():
            for node in ast.walk(tree):
                if isinstance(node, ast.ImportFrom):
                    self.assertIn(node, tree.body, name)
                    self.assertEqual(node.level, 0, name)
                    self.assertTrue(node.module.startswith("deltawires."), name)
                    self.assertIn(node.module.split(".")[1] + ".py", self.texts, name)
                    self.assertNotIn("*", [alias.name for alias in node.names], name)

    def test_barred_statements_and_signs(self):
        for where, node in self.nodes():
            self.assertNotIsInstance(node, BARRED_NODES, where)
            if isinstance(node, ast.Constant):
                self.assertNotIsInstance(node.value, (float, complex), where)
                self.assertFalse(isinstance(node.value, str) and "%" in node.value, where)

    def test_builtins_and_names(self):
        for name, tree in self.trees.items():
            plain = [bound for bound in bound_names(tree) if not SPECIAL.fullmatch(bound)]
            for bound in plain:
                self.assertNotIn(bound, BARRED_NAMES, name)
                self.assertFalse(hasattr(builtins, bound), f"{name}: {bound}")
                self.assertFalse(bound.startswith("_"), f"{name}: {bound}")
        for where, node in self.nodes():
            if isinstance(node, ast.Name) and hasattr(builtins, node.id):
                self.assertIn(node.id, BUILTINS, where)

    def test_barred_words(self):
        for name, text in self.texts.items():
            for word in BARRED_WORDS:
                self.assertIsNone(re.search(rf"\b{word}\b", text), f"{name}: {word}")
            for word in BARRED_ANYWHERE:
                self.assertNotIn(word, text, name)


class Names(Package):
    """What is called how, over all files of the package."""

    def functions(self, tree):
        return [node for node in ast.walk(tree) if isinstance(node, ast.FunctionDef)]

    def methods(self):
        return {
            method.name
            for _, node in self.nodes() if isinstance(node, ast.ClassDef)
            for method in node.body if isinstance(method, ast.FunctionDef) and not SPECIAL.fullmatch(method.name)
        }

    def stored_attributes(self):
        return {node.attr for _, node in self.nodes() if isinstance(node, ast.Attribute)
                and isinstance(node.ctx, ast.Store)}

    def own_errors(self):
        return {node.name for node in self.trees["errors.py"].body if isinstance(node, ast.ClassDef)}

    def test_a_name_is_bound_once_at_module_level(self):
        for name, tree in self.trees.items():
            bound = []
            for node in tree.body:
                if isinstance(node, ast.ImportFrom):
                    bound += [alias.asname or alias.name for alias in node.names]
                elif isinstance(node, (ast.FunctionDef, ast.ClassDef)):
                    bound.append(node.name)
                elif isinstance(node, ast.Assign):
                    bound += [target.id for target in node.targets]
                else:
                    self.assertIsInstance(node, ast.Expr, name)
                    self.assertIsInstance(node.value, ast.Constant, name)
            self.assertEqual(len(bound), len(set(bound)), name)

    def test_no_local_name_is_that_of_an_import_or_a_class(self):
        for name, tree in self.trees.items():
            above = {alias.asname or alias.name for node in tree.body if isinstance(node, ast.ImportFrom)
                     for alias in node.names}
            above |= {node.name for node in tree.body if isinstance(node, ast.ClassDef)}
            for function in self.functions(tree):
                for node in ast.walk(function):
                    local = node.arg if isinstance(node, ast.arg) else ""
                    if isinstance(node, ast.Name) and isinstance(node.ctx, ast.Store):
                        local = node.id
                    if isinstance(node, ast.FunctionDef) and node is not function:
                        local = node.name
                    self.assertNotIn(local, above, f"{name}:{function.lineno}")

    def test_each_import_is_used_and_names_the_file_that_defines_it(self):
        for name, tree in self.trees.items():
            used = {node.id for node in ast.walk(tree) if isinstance(node, ast.Name)}
            for node in tree.body:
                if isinstance(node, ast.ImportFrom):
                    there = self.trees[node.module.split(".")[1] + ".py"].body
                    defined = {part.name for part in there if isinstance(part, (ast.FunctionDef, ast.ClassDef))}
                    defined |= {target.id for part in there if isinstance(part, ast.Assign) for target in part.targets}
                    for alias in node.names:
                        self.assertIn(alias.name, defined, name)
                        self.assertIn(alias.name, used, name)

    def test_no_two_files_import_from_each_other(self):
        straight = {
            name: {node.module.split(".")[1] + ".py" for node in tree.body if isinstance(node, ast.ImportFrom)}
            for name, tree in self.trees.items()
        }
        for name in straight:
            reached, left = set(), set(straight[name])
            while left:
                here = left.pop()
                reached.add(here)
                left |= straight[here] - reached
            self.assertNotIn(name, reached)

    def test_no_name_is_a_method_and_an_attribute(self):
        self.assertEqual(self.methods() & self.stored_attributes(), set())
        self.assertEqual(self.stored_attributes() & BARRED_ATTRIBUTES, set())
        self.assertEqual(self.methods() & BARRED_NAMES, set())

    def test_only_known_methods_and_attributes_are_read(self):
        known = self.methods() | self.stored_attributes() | VALUE_METHODS
        for where, node in self.nodes():
            if isinstance(node, ast.Attribute) and not SPECIAL.fullmatch(node.attr):
                self.assertIn(node.attr, known, where)

    def test_builtins_that_take_lists(self):
        for where, node in self.nodes():
            if isinstance(node, ast.Call) and isinstance(node.func, ast.Name) and node.func.id in OVER_LISTS:
                for argument in node.args:
                    self.assertNotIsInstance(argument, ast.GeneratorExp, where)

    def test_is_and_powers(self):
        for where, node in self.nodes():
            if isinstance(node, ast.Compare):
                for sign, other in zip(node.ops, node.comparators):
                    if isinstance(sign, (ast.Is, ast.IsNot)):
                        self.assertTrue(isinstance(other, ast.Constant) and other.value in (None, True, False), where)
            if isinstance(node, (ast.BinOp, ast.AugAssign)) and isinstance(node.op, ast.Pow):
                self.assertIsInstance(node, ast.BinOp, where)
                self.assertIsInstance(node.right, ast.Constant, where)
                self.assertTrue(0 <= node.right.value <= 64, where)

    def test_errors_are_caught_and_raised_by_name(self):
        for where, node in self.nodes():
            if isinstance(node, ast.ExceptHandler):
                caught = node.type.elts if isinstance(node.type, ast.Tuple) else [node.type]
                for error in caught:
                    self.assertIn(error.id, self.own_errors() | set(CAUGHT_OF_PYTHON), where)
            if isinstance(node, ast.Raise) and node.exc is not None:
                self.assertIsInstance(node.exc, ast.Call, where)
                self.assertIn(node.exc.func.id, self.own_errors(), where)

    def is_simple(self, node):
        """What L6 calls SIMPLE, as far as the package needs it."""
        if isinstance(node, ast.Tuple):
            return all(self.is_simple(part) for part in node.elts)
        if isinstance(node, ast.Attribute):
            return self.is_simple(node.value)
        return isinstance(node, (ast.Name, ast.Constant))

    def test_what_stands_in_a_finally(self):
        for where, node in self.nodes():
            for row in node.finalbody if isinstance(node, ast.Try) else []:
                if isinstance(row, ast.Assign):
                    self.assertEqual(len(row.targets), 1, where)
                    self.assertIsInstance(row.targets[0], (ast.Name, ast.Attribute), where)
                    self.assertTrue(self.is_simple(row.value), where)
                else:
                    self.assertIsInstance(row, ast.Expr, where)
                    self.assertIsInstance(row.value, ast.Call, where)
                    self.assertIn(row.value.func.attr, ("append", "clear"), where)
                    self.assertNotIn(row.value.func.attr, self.methods() | self.stored_attributes(), where)
                    self.assertTrue(all(self.is_simple(part) for part in row.value.args), where)

    def test_no_set_is_built(self):
        for where, node in self.nodes():
            self.assertNotIsInstance(node, (ast.Set, ast.SetComp), where)
            self.assertFalse(isinstance(node, ast.Name) and node.id in ("set", "frozenset", "chr"), where)

    def test_modules_hold_no_lists_or_dicts_within_others(self):
        for name, tree in self.trees.items():
            for node in tree.body:
                if isinstance(node, ast.Assign):
                    inner = [part for part in ast.walk(node.value) if part is not node.value]
                    for part in inner:
                        self.assertNotIsInstance(part, (ast.List, ast.Dict, ast.ListComp, ast.DictComp, ast.Call), name)


if __name__ == "__main__":
    unittest.main()
