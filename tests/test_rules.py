"""What can be seen of the rules of the language in the text of the package."""

import ast
import builtins
import os
import re
import sys
import unittest

FOLDER = os.path.join(os.path.dirname(os.path.dirname(os.path.abspath(__file__))), "coeditry")
PLAIN = re.compile(r"[a-z][a-z0-9_]*\.py$")
ALLOWED_BUILTINS = set((
    "len range enumerate zip min max sum abs sorted reversed int str bool list tuple dict set isinstance ord repr any "
    "all divmod ValueError KeyError").split())
DUNDERS = {"__init__", "__eq__", "__len__", "__str__", "__repr__"}
METHODS = set((
    "append clear copy count endswith extend find get index insert isalnum isalpha isdigit islower isspace isupper "
    "items join keys ljust lower lstrip partition pop remove replace reverse rfind rjust rpartition rsplit rstrip "
    "setdefault split splitlines startswith strip update upper values zfill bit_length add discard").split())
BARRED_NAMES = set((
    "register mro elements open input law version_info with_traceback add_note attrgetter breakpoint builtins compile "
    "copyright credits delattr dir eval exec exit gc getattr globals hasattr help id importlib license locals "
    "methodcaller os quit setattr super type vars sys __name__").split())
BARRED_WORDS = re.compile(
    r"\b(typing|typing_extensions|enum|Enum|IntEnum|StrEnum|Flag|IntFlag|Generic|Protocol|ABC|ABCMeta|namedtuple|"
    r"NamedTuple|TypedDict|TYPE_CHECKING|abstractmethod|_wall|_WallAttr)\b|dataclass|overload|contextmanager")
TAKES_A_LIST = {"any", "all", "min", "max", "sum", "sorted"}
MODULES = sorted(name[:-3] for name in os.listdir(FOLDER) if name.endswith(".py"))


def text_of(module):
    with open(os.path.join(FOLDER, module + ".py"), encoding="utf-8") as held:
        return held.read()


TEXTS = {module: text_of(module) for module in MODULES}
TREES = {module: ast.parse(TEXTS[module]) for module in MODULES}


def nodes(*kinds):
    for module in MODULES:
        for node in ast.walk(TREES[module]):
            if isinstance(node, kinds):
                yield module, node


def functions():
    return nodes(ast.FunctionDef)


def is_plain(node):
    """Whether an expression at module level is a plain value, perhaps with names of functions in it."""
    if isinstance(node, ast.Constant):
        return True
    if isinstance(node, ast.UnaryOp):
        return isinstance(node.op, ast.USub) and is_plain(node.operand)
    if isinstance(node, (ast.Tuple, ast.List)):
        return all(is_plain(one) and not isinstance(one, (ast.List, ast.Dict)) for one in node.elts)
    if isinstance(node, ast.Dict):
        return all(is_plain(one) and not isinstance(one, (ast.List, ast.Dict)) for one in node.keys + node.values)
    return False


def is_only_read(node, above):
    """Whether a list or dict at module level is only asked for an item, gone through, measured or looked into here."""
    if isinstance(above, ast.Subscript):
        return above.value is node and isinstance(above.ctx, ast.Load)
    if isinstance(above, ast.Attribute):
        return above.attr in ("get", "items", "keys", "values")
    if isinstance(above, ast.Compare):
        return True
    if isinstance(above, (ast.For, ast.comprehension)):
        return above.iter is node
    return isinstance(above, ast.Call) and isinstance(above.func, ast.Name) and above.func.id in (
        "len", "list", "dict", "tuple", "sorted")


def imports_of(module):
    return [node for node in TREES[module].body if isinstance(node, ast.ImportFrom)]


def bound_at_top(module):
    names = []
    for node in TREES[module].body:
        if isinstance(node, ast.ImportFrom):
            names += [alias.asname or alias.name for alias in node.names]
        elif isinstance(node, (ast.FunctionDef, ast.ClassDef)):
            names.append(node.name)
        elif isinstance(node, ast.Assign):
            names += [target.id for target in node.targets]
    return names


def locals_of(function):
    names = [arg.arg for arg in function.args.args + function.args.kwonlyargs]
    for node in ast.walk(function):
        if isinstance(node, ast.Name) and isinstance(node.ctx, ast.Store):
            names.append(node.id)
        if isinstance(node, (ast.MatchAs, ast.MatchStar)) and node.name:
            names.append(node.name)
    return names


class RulesTest(unittest.TestCase):
    def test_l1_l14_the_folder_holds_plain_files_alone(self):
        held = [name for name in os.listdir(FOLDER) if name != "__pycache__"]
        self.assertIn("__init__.py", held)
        self.assertLessEqual(len(held), 100)
        for name in held:
            self.assertTrue(name == "__init__.py" or PLAIN.match(name), name)
            self.assertTrue(name == "__init__.py" or not hasattr(builtins, name[:-3]), name)
            self.assertNotIn(name[:-3], ("test", "tests", "testing", "site", "conftest", "heapq", "math", "itertools"))

    def test_the_package_has_no_name_of_the_library(self):
        self.assertNotIn("coeditry", sys.stdlib_module_names)

    def test_l10_sizes(self):
        for module, text in TEXTS.items():
            lines = text.split("\n")
            self.assertLessEqual(len(lines), 399, module)
            for line in lines:
                self.assertLessEqual(len(line), 120, (module, line))
        for module, function in functions():
            self.assertLessEqual(function.end_lineno - function.lineno + 1, 40, (module, function.name))

    def test_l14_l27_signs(self):
        for module, text in TEXTS.items():
            for sign in text:
                self.assertTrue(sign == "\n" or " " <= sign <= "~", (module, sign))
        for module, node in nodes(ast.Constant):
            if isinstance(node.value, str):
                self.assertNotIn("%", node.value, module)
                self.assertFalse(node.value.endswith(("._", ".__")), module)
            self.assertNotIsInstance(node.value, (float, complex, bytes), module)

    def test_l2_l16_imports(self):
        for module in MODULES:
            behind = False
            for node in TREES[module].body:
                self.assertNotIsInstance(node, ast.Import)
                if not isinstance(node, ast.ImportFrom):
                    behind = behind or not isinstance(node, ast.Expr)
                    continue
                self.assertFalse(behind, module)
                self.assertEqual(node.level, 0)
                self.assertTrue(node.module.startswith("coeditry."), (module, node.module))
                source = TREES[node.module.split(".")[1]]
                own = [one.name for one in source.body if isinstance(one, (ast.FunctionDef, ast.ClassDef))]
                own += [one.targets[0].id for one in source.body if isinstance(one, ast.Assign)]
                for alias in node.names:
                    self.assertIn(alias.name, own, (module, alias.name))
            inner = [one for one in ast.walk(TREES[module]) if isinstance(one, (ast.Import, ast.ImportFrom))]
            self.assertEqual(len(inner), len(imports_of(module)))

    def test_l16_no_two_files_import_from_each_other(self):
        reached = {module: {node.module.split(".")[1] for node in imports_of(module)} for module in MODULES}
        for _ in MODULES:
            for module in MODULES:
                for other in list(reached[module]):
                    reached[module] |= reached[other]
        for module in MODULES:
            self.assertNotIn(module, reached[module])

    def test_imports_are_used(self):
        for module in MODULES:
            used = {node.id for node in ast.walk(TREES[module]) if isinstance(node, ast.Name)}
            for node in imports_of(module):
                for alias in node.names:
                    self.assertIn(alias.name, used, module)

    def test_l3_module_level(self):
        for module in MODULES:
            for node in TREES[module].body:
                if isinstance(node, ast.Expr):
                    self.assertIsInstance(node.value, ast.Constant)
                elif isinstance(node, ast.Assign):
                    self.assertEqual(len(node.targets), 1)
                    self.assertIsInstance(node.targets[0], ast.Name)
                    self.assertTrue(is_plain(node.value), (module, node.targets[0].id))
                else:
                    self.assertIsInstance(node, (ast.ImportFrom, ast.FunctionDef, ast.ClassDef))

    def test_l4_l5_no_decorators_and_no_annotations(self):
        for module, node in nodes(ast.FunctionDef, ast.ClassDef):
            self.assertEqual(node.decorator_list, [], (module, node.name))
        for module, node in functions():
            self.assertIsNone(node.returns, (module, node.name))
        for module, node in nodes(ast.arg):
            self.assertIsNone(node.annotation, module)
        self.assertEqual(list(nodes(ast.AnnAssign)), [])

    def test_l5_methods_with_two_underscores(self):
        for module, node in functions():
            if node.name.startswith("__"):
                self.assertIn(node.name, DUNDERS, module)

    def test_l6_l7_statements_and_expressions_that_are_not_used(self):
        barred = (ast.Global, ast.AsyncFunctionDef, ast.AsyncFor, ast.AsyncWith, ast.Await, ast.Yield, ast.YieldFrom,
                  ast.Div, ast.MatMult, ast.Set, ast.SetComp, ast.TryStar)
        self.assertEqual([(module, node.lineno) for module, node in nodes(*barred)], [])

    def test_l7_a_list_where_a_class_compares(self):
        for module, node in nodes(ast.Call):
            if isinstance(node.func, ast.Name) and node.func.id in TAKES_A_LIST:
                for arg in node.args:
                    self.assertNotIsInstance(arg, ast.GeneratorExp, (module, node.lineno))
        for module, node in nodes(ast.Attribute):
            self.assertNotEqual(node.attr, "sort", module)

    def test_l8_builtins(self):
        for module in MODULES:
            own = set(bound_at_top(module))
            for function in ast.walk(TREES[module]):
                if isinstance(function, ast.FunctionDef):
                    own |= set(locals_of(function))
            for node in ast.walk(TREES[module]):
                if isinstance(node, ast.Name) and node.id not in own:
                    self.assertIn(node.id, ALLOWED_BUILTINS, (module, node.lineno))

    def test_l12_l15_l17_names(self):
        for module in MODULES:
            top = bound_at_top(module)
            self.assertEqual(len(top), len(set(top)), module)
            shadowed = {alias.name for node in imports_of(module) for alias in node.names}
            shadowed |= {node.name for node in TREES[module].body if isinstance(node, ast.ClassDef)}
            names = list(top)
            for node in ast.walk(TREES[module]):
                if isinstance(node, ast.FunctionDef):
                    self.assertEqual(set(locals_of(node)) & shadowed, set(), (module, node.name))
                    names += locals_of(node)
                    names.append(node.name)
                if isinstance(node, ast.Attribute):
                    names.append(node.attr)
            for name in names:
                self.assertRegex(name, r"^(_|_?[A-Za-z][A-Za-z0-9_]*|__[a-z]+__)$", module)
                self.assertNotIn(name, BARRED_NAMES, module)
            for name in top + [name for node in ast.walk(TREES[module]) if isinstance(node, ast.FunctionDef)
                               for name in locals_of(node)]:
                self.assertFalse(hasattr(builtins, name), (module, name))

    def test_l12_an_underscore_alone_is_not_read(self):
        for module, node in nodes(ast.Name):
            if node.id == "_":
                self.assertIsInstance(node.ctx, ast.Store, (module, node.lineno))

    def test_l17_words(self):
        for module, text in TEXTS.items():
            self.assertIsNone(BARRED_WORDS.search(text), module)

    def test_l20_is_stands_beside_none_true_and_false(self):
        for module, node in nodes(ast.Compare):
            for op, side in zip(node.ops, node.comparators):
                if isinstance(op, (ast.Is, ast.IsNot)):
                    self.assertIsInstance(side, ast.Constant, (module, node.lineno))

    def test_l25_methods(self):
        own = {node.name for _, node in functions()}
        for module, node in nodes(ast.Call):
            if isinstance(node.func, ast.Attribute):
                self.assertIn(node.func.attr, METHODS | own, (module, node.lineno))
                if node.func.attr in METHODS:
                    self.assertEqual(node.keywords, [], (module, node.lineno))

    def test_l19_errors(self):
        for module, node in nodes(ast.Raise):
            self.assertIsInstance(node.exc, ast.Call, module)
            self.assertIsInstance(node.exc.func, ast.Name, module)
        for module, node in nodes(ast.ExceptHandler):
            self.assertIsInstance(node.type, ast.Name, module)
            self.assertIn(node.type.id, bound_at_top(module))

    def test_l15_lists_and_dicts_at_module_level_are_only_read(self):
        held = {}
        for module in MODULES:
            for node in TREES[module].body:
                if isinstance(node, ast.Assign) and isinstance(node.value, (ast.List, ast.Dict)):
                    held[node.targets[0].id] = module
        for module in MODULES:
            above = {child: node for node in ast.walk(TREES[module]) for child in ast.iter_child_nodes(node)}
            for node in ast.walk(TREES[module]):
                if isinstance(node, ast.Name) and node.id in held and isinstance(node.ctx, ast.Load):
                    self.assertTrue(is_only_read(node, above[node]), (module, node.lineno, node.id))

    def test_l26_methods_have_no_names_of_methods_of_builtin_values(self):
        for module, node in nodes(ast.ClassDef):
            for one in node.body:
                if isinstance(one, ast.FunctionDef) and not one.name.startswith("__"):
                    held = [kind for kind in (str, int, list, dict, set, bytes) if hasattr(kind, one.name)]
                    self.assertTrue(held == [] or one.name in METHODS, (module, one.name))

    def test_l26_l18_attributes(self):
        own = {node.name for _, node in functions()}
        stored = {node.attr for _, node in nodes(ast.Attribute) if isinstance(node.ctx, ast.Store)}
        for module, node in nodes(ast.ClassDef):
            methods = {one.name for one in node.body if isinstance(one, ast.FunctionDef)}
            told = {one.attr for one in ast.walk(node) if isinstance(one, ast.Attribute)
                    and isinstance(one.ctx, ast.Store)}
            self.assertEqual(methods & told, set(), (module, node.name))
        for name in stored:
            self.assertFalse(any(hasattr(kind, name) for kind in (str, int, list, dict, set, bytes)), name)
        for module, node in nodes(ast.Attribute):
            self.assertIn(node.attr, stored | own | METHODS, (module, node.lineno))

    def test_l6_what_a_finally_holds(self):
        for module, node in nodes(ast.Try):
            for one in node.finalbody:
                self.assertIsInstance(one, ast.AugAssign, (module, one.lineno))
                self.assertIsInstance(one.op, ast.Add)
                self.assertIsInstance(one.target, ast.Attribute)
                self.assertIsInstance(one.value, ast.Constant)

    def test_nothing_but_comments_and_code_says_why(self):
        for module in MODULES:
            self.assertIsNotNone(ast.get_docstring(TREES[module]), module)


if __name__ == "__main__":
    unittest.main()
