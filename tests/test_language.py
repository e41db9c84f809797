"""The package is written in the subset of ../shared/LANGUAGE.md; what a look at the code can tell, by its rules.

These checks are narrower than the rules where the package needs no more.
"""

import ast
import builtins
import re
import unittest
from pathlib import Path

FOLDER = Path(__file__).resolve().parent.parent / "postways"
FILES = sorted(FOLDER.glob("*.py"))

NODES = """
    Module Expr Constant ImportFrom alias FunctionDef arguments arg ClassDef Assign AugAssign Return If While
    For Break Continue Pass Raise Call Name Attribute Subscript Slice Load Store Del Delete List Tuple Dict Set
    ListComp DictComp SetComp comprehension BinOp UnaryOp BoolOp Compare IfExp Starred keyword Lambda JoinedStr
    FormattedValue Try ExceptHandler With withitem Assert Add Sub Mult FloorDiv Mod LShift RShift BitOr BitAnd
    BitXor Not USub And Or Eq NotEq Lt LtE Gt GtE Is IsNot In NotIn
""".split()
BUILTINS = """
    len range enumerate zip min max sum abs sorted reversed int str bool bytes list tuple dict set isinstance
    ord repr any all divmod ValueError KeyError
""".split()
METHODS = """
    append clear copy count endswith extend find get index insert isalnum isalpha isdigit islower isspace
    isupper items join keys ljust lower lstrip partition pop remove replace reverse rfind rjust rpartition
    rsplit rstrip setdefault split splitlines startswith strip update upper values zfill bit_length add discard
""".split()
UNUSED = """
    register mro elements open input law version_info with_traceback add_note attrgetter breakpoint builtins
    compile copyright credits delattr dir eval exec exit gc getattr globals hasattr help id importlib license
    locals methodcaller os quit setattr super type vars sys
""".split()
UNUSED_WORDS = """
    type typing typing_extensions enum Enum IntEnum StrEnum Flag IntFlag Generic Protocol ABC ABCMeta namedtuple
    NamedTuple TypedDict TYPE_CHECKING abstractmethod
""".split()
DUNDERS = "__init__ __eq__ __repr__ __str__ __len__ __enter__ __exit__".split()


def trees():
    """Each file with its text and its tree, in which each node knows the one around it."""
    for file in FILES:
        text = file.read_text(encoding="utf-8")
        tree = ast.parse(text)
        for node in ast.walk(tree):
            for inner in ast.iter_child_nodes(node):
                inner.around = node
        yield file, text, tree


def bound_names(tree):
    """All names that a file binds, with their nodes."""
    for node in ast.walk(tree):
        if isinstance(node, (ast.FunctionDef, ast.ClassDef)):
            yield node.name, node
        elif isinstance(node, ast.arg):
            yield node.arg, node
        elif isinstance(node, ast.Name) and not isinstance(node.ctx, ast.Load):
            yield node.id, node
        elif isinstance(node, ast.alias):
            yield node.name, node


def is_docstring(node):
    """Whether a statement is a text alone."""
    return isinstance(node, ast.Expr) and isinstance(node.value, ast.Constant) and isinstance(node.value.value, str)


def name_of_call(node):
    """The bare name that a call calls, or None."""
    return node.func.id if isinstance(node, ast.Call) and isinstance(node.func, ast.Name) else None


class Language(unittest.TestCase):
    def each(self, *kinds):
        """All nodes of some kinds in all files, each with a word of where it stands."""
        for file, _, tree in trees():
            for node in ast.walk(tree):
                if isinstance(node, kinds):
                    yield node, f"{file.name}:{getattr(node, 'lineno', 0)}"

    def test_files(self):
        found = [path.name for path in FOLDER.iterdir() if path.name != "__pycache__"]
        self.assertIn("__init__.py", found)
        for name in found:
            self.assertRegex(name, r"\A[a-z_][a-z0-9_]*\.py\Z")
            self.assertFalse(name != "__init__.py" and hasattr(builtins, name[:-3]), name)

    def test_sizes_and_characters(self):
        for file, text, tree in trees():
            rows = text.split("\n")
            self.assertLessEqual(len(rows), 399, file.name)
            self.assertTrue(all(sign == "\n" or " " <= sign <= "~" for sign in text), file.name)
            for number, row in enumerate(rows, 1):
                self.assertLessEqual(len(row), 120, f"{file.name}:{number}")
                self.assertNotRegex(row, r"_wall|_WallAttr")
            for node in ast.walk(tree):
                if isinstance(node, ast.FunctionDef):
                    self.assertLessEqual(node.end_lineno - node.lineno + 1, 40, node.name)

    def test_kinds_of_code(self):
        for node, place in self.each(ast.AST):
            if not isinstance(node, ast.expr_context):
                self.assertIn(type(node).__name__, NODES, place)

    def test_module_level(self):
        for file, _, tree in trees():
            names = []
            for node in tree.body:
                if is_docstring(node):
                    continue
                self.assertIsInstance(node, (ast.ImportFrom, ast.FunctionDef, ast.ClassDef, ast.Assign), file.name)
                if isinstance(node, ast.ImportFrom):
                    names.extend(alias.name for alias in node.names)
                elif isinstance(node, ast.Assign):
                    ast.literal_eval(node.value)
                    self.assertEqual(len(node.targets), 1)
                    names.append(node.targets[0].id)
                else:
                    names.append(node.name)
            self.assertEqual(len(names), len(set(names)), file.name)

    def test_imports(self):
        places, links = {}, {}
        for file, _, tree in trees():
            own = [node for node in tree.body if isinstance(node, (ast.FunctionDef, ast.ClassDef))]
            places[file.stem] = {node.name for node in own} | {
                node.targets[0].id for node in tree.body if isinstance(node, ast.Assign)}
        for file, _, tree in trees():
            links[file.stem] = []
            for node in ast.walk(tree):
                if isinstance(node, ast.ImportFrom):
                    package, _, module = node.module.partition(".")
                    self.assertEqual((package, node.level), ("postways", 0), file.name)
                    links[file.stem].append(module)
                    for alias in node.names:
                        self.assertIn(alias.name, places[module], file.name)
                        self.assertIsNone(alias.asname)
        while links:
            free = [stem for stem, others in links.items() if not any(other in links for other in others)]
            self.assertTrue(free, "files import from each other")
            links = {stem: others for stem, others in links.items() if stem not in free}

    def test_names(self):
        for file, _, tree in trees():
            for name, node in bound_names(tree):
                self.assertRegex(name, r"\A(_?[A-Za-z][A-Za-z0-9_]*|_|__[a-z]+__)\Z")
                method = isinstance(node, ast.FunctionDef) and isinstance(node.around, ast.ClassDef)
                if name.startswith("__"):
                    self.assertTrue(method and name in DUNDERS, name)
                if not method and name != "_":
                    self.assertFalse(hasattr(builtins, name), f"{file.name}: {name}")
                self.assertNotIn(name, UNUSED, file.name)
        for node, place in self.each(ast.Attribute):
            self.assertNotIn(node.attr, UNUSED + ["format", "format_map"], place)
            if node.attr == "__name__":
                self.assertTrue(isinstance(node.value, ast.Attribute) and node.value.attr == "__class__", place)
            elif node.attr == "__class__":
                self.assertTrue(isinstance(node.value, ast.Name) and node.around.attr == "__name__", place)
            else:
                self.assertTrue(not node.attr.startswith("__") or node.attr == "__init__", place)

    def test_words_that_no_code_has(self):
        for file, text, tree in trees():
            rows = text.split("\n")
            for node in ast.walk(tree):
                if is_docstring(node):
                    for k in range(node.lineno - 1, node.end_lineno):
                        rows[k] = ""
            code = "\n".join(row.partition("#")[0] for row in rows)
            for word in UNUSED_WORDS:
                self.assertIsNone(re.search(rf"\b{word}\b", code), f"{file.name}: {word}")

    def test_no_name_means_two_things(self):
        for file, _, tree in trees():
            taken = {node.name for node in ast.walk(tree) if isinstance(node, (ast.ClassDef, ast.alias))}
            for name, node in bound_names(tree):
                if not isinstance(node, (ast.ClassDef, ast.alias)):
                    method = isinstance(node, ast.FunctionDef) and isinstance(node.around, ast.ClassDef)
                    self.assertFalse(name in taken and not method, f"{file.name}: {name}")

    def test_the_underscore_is_never_read(self):
        for node, place in self.each(ast.Name):
            if node.id == "_":
                self.assertIsInstance(node.ctx, ast.Store, place)

    def test_calls(self):
        methods = {node.name for node, _ in self.each(ast.FunctionDef) if isinstance(node.around, ast.ClassDef)}
        for file, _, tree in trees():
            own = {name for name, node in bound_names(tree)}
            for node in ast.walk(tree):
                if isinstance(node, ast.Name) and isinstance(node.ctx, ast.Load) and hasattr(builtins, node.id):
                    self.assertIn(node.id, BUILTINS, file.name)
                if isinstance(node, ast.Call):
                    if isinstance(node.func, ast.Attribute):
                        self.assertIn(node.func.attr, METHODS + sorted(methods), file.name)
                    else:
                        self.assertIsInstance(node.func, ast.Name, file.name)
                        self.assertTrue(node.func.id in own or node.func.id in BUILTINS, node.func.id)

    def test_what_is_iterated_at_once(self):
        at_once = "list tuple dict sorted sum any all enumerate zip min max".split()
        for node, place in self.each(ast.Call):
            view = isinstance(node.func, ast.Attribute) and node.func.attr in ("items", "keys", "values")
            if name_of_call(node) in ("zip", "enumerate", "reversed", "range") or view:
                around = node.around
                iterated = isinstance(around, (ast.For, ast.comprehension)) and around.iter is node
                backwards = name_of_call(node) == "range" and name_of_call(around) == "reversed"
                self.assertTrue(iterated or backwards or name_of_call(around) in at_once, place)

    def test_sets(self):
        stored = {}
        for node, place in self.each(ast.Call, ast.Set, ast.SetComp):
            if isinstance(node, ast.Call) and name_of_call(node) != "set":
                continue
            around = node.around
            if isinstance(around, ast.Assign):
                name = around.targets[0].id
                self.assertNotIn((place.partition(":")[0], name), stored, place)
                stored[place.partition(":")[0], name] = place
            else:
                self.assertTrue(name_of_call(around) in ("sorted", "len") or isinstance(around, ast.Compare), place)

    def test_values(self):
        for node, place in self.each(ast.Constant):
            self.assertFalse(isinstance(node.value, (float, complex)) or node.value is ..., place)
            if isinstance(node.value, str):
                self.assertNotIn("%", node.value, place)
        for node, place in self.each(ast.Compare):
            for sign, other in zip(node.ops, node.comparators):
                if isinstance(sign, (ast.Is, ast.IsNot)):
                    self.assertIsInstance(other, ast.Constant, place)
                    self.assertIn(other.value, (None, True, False), place)

    def test_functions_and_classes(self):
        for node, place in self.each(ast.FunctionDef):
            self.assertEqual(node.decorator_list, [], place)
            self.assertIsInstance(node.around, (ast.Module, ast.ClassDef), place)
        for node, place in self.each(ast.ClassDef):
            self.assertEqual(node.decorator_list, [], place)
            for inner in node.body:
                self.assertTrue(is_docstring(inner) or isinstance(inner, ast.FunctionDef), place)
        for node, place in self.each(ast.Raise):
            self.assertTrue(node.exc is None or name_of_call(node.exc), place)
        for node, place in self.each(ast.ExceptHandler):
            self.assertIsInstance(node.type, (ast.Name, ast.Tuple), place)

    def test_tables_are_read_on_the_spot(self):
        tables = {node.targets[0].id for node, _ in self.each(ast.Assign)
                  if isinstance(node.around, ast.Module) and isinstance(node.value, (ast.Dict, ast.List))}
        self.assertTrue(tables)
        for node, place in self.each(ast.Name):
            if node.id in tables and isinstance(node.ctx, ast.Load):
                around = node.around
                read = isinstance(around, ast.Subscript) and around.value is node and isinstance(around.ctx, ast.Load)
                asked = isinstance(around, ast.Attribute) and around.attr in ("get", "items", "keys", "values")
                self.assertTrue(read or asked or isinstance(around, ast.Compare), place)

    def test_what_blocks_do_when_they_are_left(self):
        for node, place in self.each(ast.FunctionDef):
            if node.name == "__exit__":
                self.assertEqual([arg.arg for arg in node.args.args], ["self", "kind", "value", "trace"], place)
                for row in node.body:
                    self.assertTrue(isinstance(row, ast.Assign) and isinstance(row.value, ast.Attribute), place)

    def test_what_a_loop_goes_over_is_not_changed_in_it(self):
        changing = "append clear extend insert pop remove reverse setdefault update add discard".split()
        for node, place in self.each(ast.For):
            if isinstance(node.iter, ast.Name):
                for inner in ast.walk(node):
                    if isinstance(inner, ast.Call) and isinstance(inner.func, ast.Attribute):
                        if isinstance(inner.func.value, ast.Name) and inner.func.value.id == node.iter.id:
                            self.assertNotIn(inner.func.attr, changing, place)


if __name__ == "__main__":
    unittest.main()
