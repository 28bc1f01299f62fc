"""That the package keeps to its small part of Python, as far as a plain look at its files can tell."""

import ast
import builtins
import os
import re
import unittest

ROOT = os.path.join(os.path.dirname(os.path.abspath(__file__)), "..", "tryweir")
CALLED = ("len range enumerate zip min max sum abs sorted reversed int str bool list tuple dict set frozenset isinstance "
          "ord repr any all divmod").split()
ERRORS = ("Exception ValueError TypeError KeyError IndexError LookupError ZeroDivisionError ArithmeticError OverflowError "
          "RuntimeError NotImplementedError AttributeError StopIteration").split()
METHODS = ("append clear copy count endswith extend find get index insert isalnum isalpha isdigit islower isspace isupper "
           "items join keys ljust lower lstrip partition pop remove replace reverse rfind rjust rpartition rsplit rstrip "
           "setdefault split splitlines startswith strip update upper values zfill bit_length").split()
UNWRITTEN = re.compile(r"\b(type|typing|typing_extensions|enum|Enum|IntEnum|StrEnum|Flag|IntFlag|Generic|Protocol|ABC|ABCMeta"
                       r"|namedtuple|NamedTuple|TypedDict|TYPE_CHECKING|abstractmethod)\b|dataclass|overload|contextmanager")
UNUSED = ("register mro elements open input version_info with_traceback add_note attrgetter breakpoint builtins compile "
          "copyright credits delattr dir eval exec exit gc getattr globals hasattr help id importlib license locals "
          "methodcaller os quit setattr super type vars sys format format_map").split()
NODES = """Module Expr Constant ImportFrom alias FunctionDef arguments arg ClassDef Assign AugAssign If While For Return Break
    Continue Pass Raise Try ExceptHandler Name Load Store Attribute Subscript Slice Call keyword BinOp UnaryOp BoolOp Compare
    IfExp List Tuple Dict Set ListComp comprehension Lambda JoinedStr FormattedValue Add Sub Mult FloorDiv Mod Pow BitAnd
    BitOr BitXor LShift RShift Invert USub UAdd Not And Or Eq NotEq Lt LtE Gt GtE Is IsNot In NotIn""".split()


def files():
    for name in sorted(os.listdir(ROOT)):
        if name != "__pycache__":
            with open(os.path.join(ROOT, name), encoding="utf-8", newline="") as opened:
                yield name, opened.read()


def trees():
    for name, text in files():
        yield name, ast.parse(text)


class Language(unittest.TestCase):
    def each(self, kind):
        for name, tree in trees():
            for node in ast.walk(tree):
                if isinstance(node, kind):
                    yield f"{name}:{getattr(node, 'lineno', 0)}", node

    def test_there_is_something_to_look_at(self):
        self.assertGreater(len(list(files())), 3)

    def test_files_and_signs(self):
        for name, text in files():
            self.assertRegex(name, r"\A(__init__|[a-z][a-z0-9_]*)\.py\Z")
            self.assertIsNone(re.search(r"[^ -~\n]", text), name)
            self.assertIsNone(UNWRITTEN.search(text), name)
            self.assertLessEqual(text.count("\n"), 400, name)
            self.assertLessEqual(max(len(row) for row in text.split("\n")), 120, name)

    def test_only_plain_nodes(self):
        for where, node in self.each(ast.AST):
            self.assertIn(node.__class__.__name__, NODES, where)

    def test_imports(self):
        names = [name[:-3] for name, text in files()]
        for where, node in self.each(ast.ImportFrom):
            package, dot, module = node.module.partition(".")
            self.assertEqual((package, node.level), ("tryweir", 0), where)
            self.assertIn(module, names, where)
            self.assertTrue(all(alias.name != "*" and alias.asname is None for alias in node.names), where)

    def test_functions(self):
        for where, node in self.each(ast.FunctionDef):
            self.assertLessEqual(node.end_lineno - node.lineno + 1, 40, where)
            self.assertEqual((node.decorator_list, node.args.vararg, node.args.kwarg, node.args.kwonlyargs),
                             ([], None, None, []), where)

    def test_values(self):
        for where, node in self.each(ast.Constant):
            self.assertTrue(node.value is None or isinstance(node.value, (int, str)), where)
            self.assertNotIn("%", str(node.value), where)

    def test_texts_with_names_in_them(self):
        for where, node in self.each(ast.FormattedValue):
            self.assertIsInstance(node.value, ast.Name, where)
            self.assertIsNone(node.format_spec, where)

    def test_assignments_have_one_plain_target(self):
        for where, node in self.each(ast.Assign):
            self.assertEqual(len(node.targets), 1, where)
            self.assertNotIsInstance(node.targets[0], (ast.Tuple, ast.List), where)

    def test_comprehensions(self):
        for where, node in self.each(ast.ListComp):
            self.assertEqual(len(node.generators), 1, where)
            self.assertLessEqual(len(node.generators[0].ifs), 1, where)

    def test_is_stands_beside_none_and_truths(self):
        for where, node in self.each(ast.Compare):
            for sign, other in zip(node.ops, node.comparators):
                if isinstance(sign, (ast.Is, ast.IsNot)):
                    self.assertIsInstance(other, ast.Constant, where)

    def test_names(self):
        own = CALLED + ERRORS
        for where, node in self.each(ast.Name):
            self.assertRegex(node.id, r"\A[A-Za-z][A-Za-z0-9_]*\Z", where)
            self.assertNotIn(node.id, UNUSED, where)
            if hasattr(builtins, node.id):
                self.assertIn(node.id, own, where)
                self.assertIsInstance(node.ctx, ast.Load, where)
        for where, node in self.each(ast.arg):
            self.assertFalse(hasattr(builtins, node.arg) or node.arg.startswith("_"), where)
            self.assertIsNone(node.annotation, where)

    def test_methods(self):
        for name, tree in trees():
            for node in ast.walk(tree):
                if isinstance(node, ast.Call) and isinstance(node.func, ast.Attribute):
                    self.assertIn(node.func.attr, METHODS, f"{name}:{node.lineno}")

    def test_what_is_walked_at_once(self):
        walkers = "list tuple dict sorted sum any all enumerate zip min max".split()
        for name, tree in trees():
            walked = []
            for node in ast.walk(tree):
                if isinstance(node, (ast.For, ast.comprehension)):
                    walked.append(node.iter)
                if isinstance(node, ast.Call) and node.args:
                    if isinstance(node.func, ast.Name) and node.func.id in walkers:
                        walked.append(node.args[0])
            for node in ast.walk(tree):
                if isinstance(node, ast.Call) and node not in walked:
                    called = node.func.id if isinstance(node.func, ast.Name) else getattr(node.func, "attr", "")
                    self.assertNotIn(called, ("zip", "enumerate", "reversed", "range", "items", "keys", "values"),
                                     f"{name}:{node.lineno}")

    def test_sets_are_not_kept(self):
        for name, tree in trees():
            for node in ast.walk(tree):
                for inner in ast.iter_child_nodes(node):
                    if isinstance(inner, ast.Call) and isinstance(inner.func, ast.Name) and inner.func.id == "set":
                        self.assertTrue(isinstance(node, (ast.BinOp, ast.Compare))
                                        or isinstance(node, ast.Call) and node.func.id in ("sorted", "len"),
                                        f"{name}:{inner.lineno}")

    def test_each_name_of_a_top_is_bound_once(self):
        for name, tree in trees():
            bound = [alias.name for node in tree.body if isinstance(node, ast.ImportFrom) for alias in node.names]
            bound += [node.name for node in tree.body if isinstance(node, (ast.FunctionDef, ast.ClassDef))]
            bound += [node.targets[0].id for node in tree.body if isinstance(node, ast.Assign)]
            self.assertEqual(len(bound), len(set(bound)), name)

    def test_what_is_imported_is_used_and_comes_from_where_it_is_made(self):
        made = {"tryweir." + name[:-3]: [getattr(node, "name", None) or node.targets[0].id for node in tree.body
                                         if isinstance(node, (ast.FunctionDef, ast.ClassDef, ast.Assign))]
                for name, tree in trees()}
        for name, tree in trees():
            used = {node.id for node in ast.walk(tree) if isinstance(node, ast.Name)}
            for node in tree.body:
                if isinstance(node, ast.ImportFrom):
                    for alias in node.names:
                        self.assertIn(alias.name, made[node.module], f"{name}:{node.lineno}")
                        self.assertIn(alias.name, used, f"{name}:{node.lineno}")

    def test_keywords_of_pythons_own(self):
        allowed = {"sorted": ("key", "reverse"), "min": ("key", "default"), "max": ("key", "default"), "sum": ("start",),
                   "enumerate": ("start",), "zip": ("strict",)}
        for where, node in self.each(ast.Call):
            called = node.func.id if isinstance(node.func, ast.Name) else ""
            for keyword in node.keywords:
                self.assertIn(keyword.arg, allowed.get(called, ()), where)

    def test_no_local_is_called_like_an_import_or_class(self):
        for name, tree in trees():
            taken = [alias.name for node in tree.body if isinstance(node, ast.ImportFrom) for alias in node.names]
            taken += [node.name for node in tree.body if isinstance(node, ast.ClassDef)]
            for node in ast.walk(tree):
                if isinstance(node, ast.Name) and isinstance(node.ctx, ast.Store):
                    self.assertNotIn(node.id, taken, f"{name}:{node.lineno}")
                if isinstance(node, ast.arg):
                    self.assertNotIn(node.arg, taken, f"{name}:{node.lineno}")

    def test_no_two_files_draw_from_one_another(self):
        drawn = {}
        for name, tree in trees():
            drawn["tryweir." + name[:-3]] = [node.module for node in tree.body if isinstance(node, ast.ImportFrom)]
        left = dict(drawn)
        while left:
            free = [name for name, others in left.items() if not any(other in left for other in others)]
            self.assertTrue(free, sorted(left))
            for name in free:
                left.pop(name)


if __name__ == "__main__":
    unittest.main()
