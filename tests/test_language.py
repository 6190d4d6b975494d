"""The rules of LANGUAGE.md, as far as they can be seen from the text of the package."""

import ast
import builtins
import os
import re
import unittest

ROOT = os.path.dirname(os.path.dirname(os.path.abspath(__file__)))
PACKAGE = os.path.join(ROOT, "nearby")

BUILTINS = set(
    "len range enumerate zip min max sum abs sorted reversed int str bool list tuple dict set isinstance ord repr "
    "any all divmod Exception ValueError TypeError KeyError IndexError LookupError ZeroDivisionError "
    "ArithmeticError OverflowError RuntimeError NotImplementedError AttributeError".split()
)
BUILTIN_METHODS = set(
    "append clear copy count endswith extend find get index insert isalnum isalpha isdigit islower isspace isupper "
    "items join keys ljust lower lstrip partition pop remove replace reverse rfind rjust rpartition rsplit rstrip "
    "setdefault split startswith strip update upper values zfill bit_length isascii isdecimal add discard".split()
)
CHANGING = set("append clear extend insert pop remove reverse setdefault update".split())
DOUBLE_METHODS = set("__init__ __eq__ __repr__ __str__ __len__".split())
NO_NAMES = set(
    "register mro elements open input law version_info with_traceback add_note attrgetter breakpoint builtins "
    "compile copyright credits delattr dir eval exec exit gc globals help id importlib license locals methodcaller "
    "os quit super type vars sys iter next map".split()
)
NO_WORDS = re.compile(
    r"\b(type|typing|typing_extensions|enum|Enum|IntEnum|StrEnum|Flag|IntFlag|Generic|Protocol|ABC|ABCMeta|namedtuple|"
    r"NamedTuple|TypedDict|TYPE_CHECKING|abstractmethod)\b|dataclass|overload|contextmanager|_wall"
)
AT_ONCE = {"range", "zip", "enumerate", "reversed"}
VIEWS = {"items", "keys", "values"}
TAKERS = {"list", "tuple", "dict", "sorted", "sum", "any", "all", "enumerate", "zip", "min", "max"}
STATEMENTS = (
    ast.Assign, ast.AugAssign, ast.If, ast.While, ast.For, ast.Return, ast.Break, ast.Continue, ast.Pass, ast.Raise,
    ast.Assert, ast.Delete, ast.Try, ast.Expr, ast.FunctionDef, ast.ClassDef, ast.ImportFrom,
)
NOT_USED = (
    ast.AsyncFunctionDef, ast.Global, ast.Nonlocal, ast.Import, ast.Yield, ast.YieldFrom, ast.Await, ast.GeneratorExp,
    ast.NamedExpr, ast.AnnAssign, ast.With, ast.Match, ast.Div, ast.MatMult, ast.Pow,
)


def files():
    return sorted(name for name in os.listdir(PACKAGE) if name != "__pycache__")


def text_of(name):
    with open(os.path.join(PACKAGE, name), encoding="utf-8", newline="") as file:
        return file.read()


def tree_of(name):
    tree = ast.parse(text_of(name))
    for node in ast.walk(tree):
        for child in ast.iter_child_nodes(node):
            child.parent = node
    return tree


def all_nodes(*kinds):
    for name in files():
        for node in ast.walk(tree_of(name)):
            if isinstance(node, kinds):
                yield name, node


def called_name(node):
    return node.func.id if isinstance(node, ast.Call) and isinstance(node.func, ast.Name) else None


def is_iterated(node, kept):
    """Whether a value is iterated where it stands, or is a range that a name keeps."""
    above = node.parent
    if isinstance(above, (ast.For, ast.comprehension)):
        return above.iter is node
    if kept and isinstance(above, ast.Assign):
        return True
    if isinstance(above, ast.Compare):
        return kept
    return called_name(above) in TAKERS | ({"len", "reversed"} if kept else set()) and above.args[0] is node or (
        called_name(above) == "zip"
    )


class FilesTest(unittest.TestCase):
    def test_the_folder_contains_files_with_plain_names_alone(self):
        self.assertIn("__init__.py", files())
        for name in files():
            self.assertRegex(name, r"^(__init__|[a-z][a-z0-9_]*)\.py$")

    def test_sizes_and_characters(self):
        for name in files():
            text = text_of(name)
            self.assertRegex(text, r"\A[\n -~]*\n\Z", name)
            self.assertLessEqual(len(text.splitlines()), 399, name)
            self.assertLessEqual(max(len(line) for line in text.splitlines()), 120, name)

    def test_sizes_of_functions(self):
        for name, node in all_nodes(ast.FunctionDef):
            self.assertLessEqual(node.end_lineno - node.lineno + 1, 40, f"{name} {node.name}")

    def test_imports_name_the_file_that_defines(self):
        for name, node in all_nodes(ast.ImportFrom):
            self.assertTrue(node.level == 0 and node.module.startswith("nearby."), name)
            defined = {
                part.name for part in tree_of(node.module.split(".")[1] + ".py").body
                if isinstance(part, (ast.FunctionDef, ast.ClassDef))
            }
            for alias in node.names:
                self.assertIn(alias.name, defined, name)
                self.assertIsNone(alias.asname, name)
            self.assertIsInstance(node.parent, ast.Module, name)

    def test_no_ring_of_imports(self):
        wanted = {name: set() for name in files()}
        for name, node in all_nodes(ast.ImportFrom):
            wanted[name].add(node.module.split(".")[1] + ".py")
        while wanted:
            free = [name for name in wanted if not wanted[name] & set(wanted)]
            self.assertTrue(free, "imports make a ring")
            for name in free:
                del wanted[name]

    def test_module_level(self):
        for name in files():
            for node in tree_of(name).body:
                if isinstance(node, ast.Assign):
                    ast.literal_eval(node.value)
                elif isinstance(node, ast.Expr):
                    self.assertIsInstance(node.value.value, str, name)
                else:
                    self.assertIsInstance(node, (ast.ImportFrom, ast.FunctionDef, ast.ClassDef), name)


class StatementsTest(unittest.TestCase):
    def test_only_some_kinds_are_used(self):
        for name, node in all_nodes(ast.AST):
            self.assertNotIsInstance(node, NOT_USED, f"{name} {getattr(node, 'lineno', '')}")
            if isinstance(node, ast.stmt):
                self.assertIsInstance(node, STATEMENTS, f"{name} {node.lineno}")

    def test_no_decorators_and_plain_bases(self):
        for name, node in all_nodes(ast.FunctionDef, ast.ClassDef):
            self.assertEqual(node.decorator_list, [], name)
            if isinstance(node, ast.ClassDef):
                self.assertTrue(all(isinstance(base, ast.Name) for base in node.bases), name)
            elif node.name.startswith("__"):
                self.assertIn(node.name, DOUBLE_METHODS, name)

    def test_is_stands_beside_none_true_and_false_alone(self):
        for name, node in all_nodes(ast.Compare):
            for operator, right in zip(node.ops, node.comparators):
                if isinstance(operator, (ast.Is, ast.IsNot)):
                    self.assertIsInstance(right, ast.Constant, f"{name} {node.lineno}")

    def test_errors_are_made_on_the_spot(self):
        for name, node in all_nodes(ast.Raise):
            self.assertIsNotNone(called_name(node.exc), f"{name} {node.lineno}")

    def test_constants(self):
        for name, node in all_nodes(ast.Constant):
            self.assertTrue(node.value is None or type(node.value) in (bool, int, str), f"{name} {node.lineno}")
            if isinstance(node.value, str) and not isinstance(node.parent, ast.Expr):
                self.assertNotIn("%", node.value, f"{name} {node.lineno}")
                self.assertIsNone(NO_WORDS.search(node.value), f"{name} {node.lineno}")


class NamesTest(unittest.TestCase):
    def test_builtins(self):
        every = set(dir(builtins))
        for name, node in all_nodes(ast.Name):
            if node.id in every:
                self.assertIn(node.id, BUILTINS, f"{name} {node.lineno}")
                self.assertIsInstance(node.ctx, ast.Load, f"{name} {node.lineno}")
                if node.id[0].islower() and node.id != "isinstance":
                    keys = [above.arg for above in [node.parent] if isinstance(above, ast.keyword)]
                    plain = isinstance(node.parent, ast.Call) and node.parent.func is node
                    checked = called_name(node.parent) == "isinstance" or isinstance(node.parent, ast.Tuple)
                    self.assertTrue(plain or checked or keys == ["key"], f"{name} {node.lineno}")

    def test_names_that_are_given(self):
        every = set(dir(builtins)) | NO_NAMES
        for name, node in all_nodes(ast.Name, ast.arg, ast.FunctionDef, ast.ClassDef, ast.Attribute, ast.keyword):
            told = [getattr(node, part, None) for part in ["id", "arg", "name", "attr"]]
            for word in filter(None, told):
                where = f"{name} {getattr(node, 'lineno', '')} {word}"
                self.assertIsNone(NO_WORDS.search(word), where)
                self.assertRegex(word, r"^(_?[A-Za-z][A-Za-z0-9_]*|_|__init__)$", where)
                if isinstance(node, (ast.arg, ast.FunctionDef, ast.ClassDef)):
                    self.assertNotIn(word, every, where)
                elif not isinstance(node, ast.keyword):
                    self.assertNotIn(word, NO_NAMES, where)

    def test_the_underscore_is_never_read(self):
        for name, node in all_nodes(ast.Name):
            if node.id == "_":
                self.assertIsInstance(node.ctx, ast.Store, f"{name} {node.lineno}")

    def test_names_are_bound_once_at_module_level(self):
        for name in files():
            bound = []
            for node in tree_of(name).body:
                if isinstance(node, ast.ImportFrom):
                    bound.extend(alias.name for alias in node.names)
                elif isinstance(node, ast.Assign):
                    bound.extend(target.id for target in node.targets)
                elif not isinstance(node, ast.Expr):
                    bound.append(node.name)
            self.assertEqual(len(bound), len(set(bound)), name)
            for node in ast.walk(tree_of(name)):
                if isinstance(node, ast.arg):
                    self.assertNotIn(node.arg, bound, name)
                elif isinstance(node, ast.Name) and isinstance(node.ctx, ast.Store):
                    if not isinstance(node.parent.parent, ast.Module):
                        self.assertNotIn(node.id, bound, f"{name} {node.lineno}")

    def test_attributes_are_assigned_by_some_class(self):
        assigned, methods = set(), set()
        for _, node in all_nodes(ast.Attribute):
            if isinstance(node.ctx, ast.Store):
                assigned.add(node.attr)
        for _, node in all_nodes(ast.ClassDef):
            methods |= {part.name for part in node.body if isinstance(part, ast.FunctionDef)}
        self.assertEqual(assigned & methods, set())
        for name, node in all_nodes(ast.Attribute):
            called = isinstance(node.parent, ast.Call) and node.parent.func is node
            known = methods | BUILTIN_METHODS if called else assigned
            self.assertIn(node.attr, known, f"{name} {node.lineno}")


class CallsTest(unittest.TestCase):
    def test_iterated_at_once(self):
        for name, node in all_nodes(ast.Call):
            viewed = isinstance(node.func, ast.Attribute) and node.func.attr in VIEWS
            if called_name(node) in AT_ONCE or viewed:
                self.assertTrue(is_iterated(node, called_name(node) == "range"), f"{name} {node.lineno}")

    def test_sets_are_measured_sorted_asked_or_kept(self):
        for name, node in all_nodes(ast.Call, ast.Set, ast.SetComp):
            if called_name(node) == "set" or not isinstance(node, ast.Call):
                above = node.parent
                plain = called_name(above) in ("sorted", "len") or isinstance(above, (ast.Compare, ast.Assign))
                self.assertTrue(plain, f"{name} {node.lineno}")

    def test_kept_sets_are_used_as_sets_alone(self):
        for name, node in all_nodes(ast.Assign):
            if called_name(node.value) == "set" or isinstance(node.value, (ast.Set, ast.SetComp)):
                self.check_kept_set(name, node)

    def check_kept_set(self, name, assignment):
        function = assignment.parent
        while not isinstance(function, ast.FunctionDef):
            function = function.parent
        kept = assignment.targets[0].id
        for node in ast.walk(function):
            if isinstance(node, ast.Name) and node.id == kept and node is not assignment.targets[0]:
                above = node.parent
                told = isinstance(above, ast.Attribute) and above.attr in ("add", "discard")
                asked = isinstance(above, ast.Compare) or called_name(above) in ("len", "sorted")
                self.assertTrue(told or asked, f"{name} {node.lineno}")

    def test_keywords_of_builtins(self):
        allowed = {"sorted": {"key", "reverse"}, "min": {"key", "default"}, "max": {"key", "default"}}
        allowed.update({"sum": {"start"}, "enumerate": {"start"}, "zip": {"strict"}})
        for name, node in all_nodes(ast.Call):
            word = called_name(node)
            used = {part.arg for part in node.keywords}
            if word in BUILTINS:
                self.assertLessEqual(used, allowed.get(word, set()), f"{name} {node.lineno}")
            elif isinstance(node.func, ast.Attribute) and node.func.attr in BUILTIN_METHODS:
                self.assertEqual(node.keywords, [], f"{name} {node.lineno}")

    def test_loops_do_not_change_what_they_iterate_over(self):
        for name, node in all_nodes(ast.For):
            over = {part.id for part in ast.walk(node.iter) if isinstance(part, ast.Name)}
            for part in ast.walk(ast.Module(node.body, [])):
                if isinstance(part, ast.Call) and isinstance(part.func, ast.Attribute):
                    if part.func.attr in CHANGING:
                        changed = {inner.id for inner in ast.walk(part.func.value) if isinstance(inner, ast.Name)}
                        self.assertFalse(changed & (over - {"self"}), f"{name} {part.lineno}")


if __name__ == "__main__":
    unittest.main()
