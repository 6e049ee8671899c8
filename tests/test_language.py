"""The files of the package against those rules of the language subset that can be seen in a file."""

import ast
import builtins
from pathlib import Path
from unittest import TestCase

ROOT = Path(__file__).resolve().parent.parent
FOLDER = ROOT / "poolmaps"
FILES = sorted(path for path in FOLDER.rglob("*") if path.is_file() and "__pycache__" not in path.parts)
BUILTINS = set("""len range enumerate zip min max sum abs sorted reversed int str bool bytes list tuple dict set
    isinstance ord repr any all divmod iter next Exception ValueError TypeError KeyError IndexError LookupError
    ZeroDivisionError ArithmeticError OverflowError RuntimeError NotImplementedError property staticmethod
    classmethod super""".split())
METHODS = set("""append clear copy count endswith extend find get index insert isalnum isalpha isdigit islower isspace
    isupper items join keys ljust lower lstrip partition pop remove replace reverse rfind rjust rpartition rsplit
    rstrip setdefault split splitlines startswith strip update upper values zfill bit_length isascii isdecimal""".split())
DUNDERS = set("""__init__ __eq__ __repr__ __str__ __len__ __call__ __iter__ __contains__ __getitem__ __bool__
    __and__ __mul__ __rmul__""".split())
BARRED = set("""register mro elements open input law version_info with_traceback add_note attrgetter breakpoint
    compile copyright credits delattr dir eval exec exit gc getattr globals hasattr help id importlib license locals
    methodcaller os quit setattr type vars typing enum Enum Flag Generic Protocol ABC namedtuple""".split())
STATEMENTS = (
    ast.Assign, ast.AugAssign, ast.If, ast.While, ast.For, ast.Return, ast.Break, ast.Continue, ast.Pass, ast.Raise,
    ast.Assert, ast.Delete, ast.Expr, ast.FunctionDef, ast.Try,
)
LIBRARY = {"heapq": {"heappush", "heappop"}, "math": {"comb", "gcd"}}
# Parameters and local variables that are functions.
CALLED = {"change", "call", "action"}
LISTS_ONLY = ("any", "all", "min", "max", "sum", "sorted")


def is_call(node, *names):
    return isinstance(node, ast.Call) and isinstance(node.func, ast.Name) and node.func.id in names


def starred_indices(tree):
    """The items and slices in whose brackets a star stands, wherever it stands there."""
    return [
        node for node in ast.walk(tree)
        if isinstance(node, ast.Subscript) and any(isinstance(part, ast.Starred) for part in ast.walk(node.slice))]


def targets_of(comprehension):
    """The names that a comprehension assigns."""
    return {
        node.id for part in comprehension.generators for node in ast.walk(part.target) if isinstance(node, ast.Name)}


def bound_in(function):
    """All names that a function binds: parameters, targets and those of comprehensions."""
    names = {arg.arg for arg in [*function.args.args, *function.args.kwonlyargs]}
    return names | {
        node.id for node in ast.walk(function) if isinstance(node, ast.Name) and isinstance(node.ctx, ast.Store)}


class LanguageTest(TestCase):
    def setUp(self):
        self.sources = {path: path.read_text(encoding="ascii") for path in FILES}
        self.trees = {path: ast.parse(source) for path, source in self.sources.items()}
        self.classes = {
            node.name for tree in self.trees.values() for node in tree.body if isinstance(node, ast.ClassDef)}
        self.methods = {
            node.name for tree in self.trees.values() for each in tree.body if isinstance(each, ast.ClassDef)
            for node in each.body if isinstance(node, ast.FunctionDef)}

    def functions(self):
        for path, tree in self.trees.items():
            for node in ast.walk(tree):
                if isinstance(node, ast.FunctionDef):
                    yield path, tree, node

    def nodes(self):
        for path, tree in self.trees.items():
            for node in ast.walk(tree):
                yield f"{path}:{getattr(node, 'lineno', 0)}", node

    def test_files_and_lines(self):
        self.assertTrue(FILES)
        for path, source in self.sources.items():
            self.assertEqual((path.suffix, path.stem), (".py", path.stem.lower()))
            self.assertTrue((path.parent / "__init__.py").is_file())
            lines = source.split("\n")
            self.assertLessEqual(len(lines), 399, path)
            for line in lines:
                self.assertLessEqual(len(line), 120, (path, line))
                self.assertTrue(all(" " <= sign <= "~" for sign in line), (path, line))
        for path, _, node in self.functions():
            self.assertLessEqual(node.end_lineno - node.lineno + 1, 40, (path, node.name))

    def test_module_level(self):
        for path, tree in self.trees.items():
            names = []
            for at, node in enumerate(tree.body):
                if isinstance(node, ast.Expr):
                    self.assertTrue(at == 0 and isinstance(node.value, ast.Constant), path)
                elif isinstance(node, ast.ImportFrom):
                    names += [alias.asname or alias.name for alias in node.names]
                elif isinstance(node, (ast.FunctionDef, ast.ClassDef)):
                    names.append(node.name)
                else:
                    self.assertIsInstance(node, ast.Assign, path)
                    names += [target.id for target in node.targets]
            self.assertEqual(len(names), len(set(names)), path)

    def test_imports(self):
        ahead = {}
        for path, tree in self.trees.items():
            name = ".".join(path.relative_to(ROOT).with_suffix("").parts)
            ahead[name] = set()
            for node in ast.walk(tree):
                self.assertNotIsInstance(node, ast.Import, path)
                if isinstance(node, ast.ImportFrom) and node.module in LIBRARY:
                    self.assertTrue({alias.name for alias in node.names} <= LIBRARY[node.module], path)
                    self.assertTrue(node in tree.body and not [alias for alias in node.names if alias.asname], path)
                elif isinstance(node, ast.ImportFrom):
                    self.assertEqual((node.level, node.module.split(".")[0], node in tree.body), (0, "poolmaps", True))
                    target = self.trees[ROOT.joinpath(*node.module.split(".")).with_suffix(".py")]
                    own = {each.name for each in target.body if isinstance(each, (ast.FunctionDef, ast.ClassDef))}
                    own |= {each.targets[0].id for each in target.body if isinstance(each, ast.Assign)}
                    self.assertTrue({alias.name for alias in node.names} <= own, path)
                    self.assertFalse([alias for alias in node.names if alias.asname], path)
                    ahead[name].add(node.module)
                    used = [each.id for each in ast.walk(tree) if isinstance(each, ast.Name)]
                    self.assertTrue({alias.name for alias in node.names} <= set(used), (path, node.module))
        while ahead:
            free = [name for name, others in ahead.items() if not others & set(ahead)]
            self.assertTrue(free, "files that import from each other")
            for name in free:
                del ahead[name]

    def test_names(self):
        for path, tree, node in self.functions():
            taken = {alias.name for each in tree.body if isinstance(each, ast.ImportFrom) for alias in each.names}
            taken |= {each.name for each in tree.body if isinstance(each, ast.ClassDef)}
            names = bound_in(node)
            self.assertFalse(names & (taken | BARRED), (path, node.name))
            self.assertFalse({name for name in names - {"_"} if hasattr(builtins, name)}, (path, node.name))
            self.assertFalse({name for name in names if name.startswith("__")}, (path, node.name))
            if node.name.startswith("__"):
                self.assertIn(node.name, DUNDERS)
            else:
                self.assertFalse(hasattr(builtins, node.name) or node.name in BARRED, (path, node.name))
            self.assertTrue(all(getattr(each, "id", None) == "property" for each in node.decorator_list), path)

    def test_statements_and_expressions(self):
        barred = (
            ast.Lambda, ast.GeneratorExp, ast.With, ast.Global, ast.Nonlocal, ast.AnnAssign, ast.NamedExpr,
            ast.AsyncFunctionDef, ast.Await, ast.YieldFrom, ast.Div, ast.MatMult, ast.Match,
        )
        for place, node in self.nodes():
            self.assertNotIsInstance(node, barred, place)
            if isinstance(node, ast.FunctionDef):
                self.assertTrue(all(isinstance(each, STATEMENTS) for each in node.body), place)
                self.assertFalse([each for each in ast.walk(node) if isinstance(each, ast.FunctionDef)][1:], place)
            if isinstance(node, ast.Compare):
                for sign, side in zip(node.ops, node.comparators):
                    if isinstance(sign, (ast.Is, ast.IsNot)):
                        self.assertTrue(isinstance(side, ast.Constant) and side.value in (None, True, False), place)
            if isinstance(node, ast.Constant):
                self.assertNotIsInstance(node.value, (float, complex, bytes), place)
                if isinstance(node.value, str):
                    self.assertFalse(chr(37) in node.value or node.value.startswith("__"), place)
            if isinstance(node, ast.BinOp) and isinstance(node.op, ast.Pow):
                self.assertIsInstance(node.right, ast.Constant, place)
            if isinstance(node, ast.Raise):
                self.assertTrue(is_call(node.exc, *self.classes), place)
                self.assertTrue(node.cause is None or getattr(node.cause, "value", 0) is None, place)
            if isinstance(node, ast.Attribute) and isinstance(node.ctx, ast.Store):
                self.assertTrue(isinstance(node.value, ast.Name), place)

    def test_no_star_in_the_brackets_of_an_index(self):
        for path, tree in self.trees.items():
            self.assertEqual([node.lineno for node in starred_indices(tree)], [], path)

    def test_the_check_finds_stars_in_brackets(self):
        for text in ("rows[(*key, 1)] = 2", "key = rows[(*key, 1)]", "del rows[(1, *key)]", "rows[(*a, *b)] += 1",
                     "key = rows[1][((*key, 1), 2)]", "rows[*key] = 2", "key = rows[told(*key)]"):
            self.assertEqual(len(starred_indices(ast.parse(text))), 1, text)
        for text in ("key = (*key, 1)\nrows[key] = (*key, 2)", "rows = {(*key, 1): 2}", "rows = [*rows[1], 2]"):
            self.assertEqual(starred_indices(ast.parse(text)), [], text)

    def test_stars_stand_before_plain_values(self):
        for place, node in self.nodes():
            if isinstance(node, ast.Set):
                self.assertFalse([each for each in node.elts if isinstance(each, ast.Starred)], place)
            if isinstance(node, ast.Call):
                for each in [part.value for part in node.args if isinstance(part, ast.Starred)]:
                    self.assertIsInstance(each, (ast.Name, ast.List, ast.Tuple), place)

    def test_errors_that_are_caught_and_what_is_done_at_last(self):
        own = {node.name for node in self.trees[FOLDER / "errors.py"].body if isinstance(node, ast.ClassDef)}
        for place, node in self.nodes():
            if isinstance(node, ast.Try):
                for handler in node.handlers:
                    caught = handler.type.elts if isinstance(handler.type, ast.Tuple) else [handler.type]
                    self.assertTrue({each.id for each in caught} <= own, place)
                for row in node.finalbody:
                    self.assertIsInstance(row, ast.Assign, place)
                    parts = [row.value, *row.targets]
                    told = [each for part in parts for each in (part.elts if isinstance(part, ast.Tuple) else [part])]
                    self.assertTrue(all(isinstance(each, (ast.Name, ast.Attribute)) for each in told), place)

    def test_names_of_caught_errors_stand_for_nothing_else(self):
        for path, _, function in self.functions():
            caught = [node.name for node in ast.walk(function) if isinstance(node, ast.ExceptHandler) and node.name]
            self.assertEqual(len(caught), len(set(caught)), (path, function.name))
            self.assertFalse(set(caught) & bound_in(function), (path, function.name))

    def test_calls(self):
        own = {node.name for tree in self.trees.values() for node in tree.body if isinstance(node, ast.FunctionDef)}
        for place, node in self.nodes():
            if not isinstance(node, ast.Call):
                continue
            if isinstance(node.func, ast.Name):
                library = {name for names in LIBRARY.values() for name in names}
                self.assertIn(node.func.id, BUILTINS | own | self.classes | library | CALLED, place)
                if node.func.id not in own | self.classes:
                    self.assertFalse(node.keywords, place)
                if node.func.id in LISTS_ONLY and node.args:
                    self.assertNotIsInstance(node.args[0], ast.GeneratorExp, place)
            else:
                self.assertIn(node.func.attr, METHODS | self.methods | {"__init__"}, place)

    def test_views_of_dicts_do_not_stand_in_set(self):
        for place, node in self.nodes():
            if is_call(node, "set") and node.args and isinstance(node.args[0], ast.Call):
                self.assertNotIn(getattr(node.args[0].func, "attr", ""), ("values", "items", "keys"), place)

    def test_inner_comprehensions_have_names_of_their_own(self):
        kinds = (ast.ListComp, ast.SetComp, ast.DictComp)
        for path, _, function in self.functions():
            told = [node for node in ast.walk(function) if isinstance(node, kinds)]
            inside = {id(part) for each in told for part in ast.walk(each)}
            names = {arg.arg for arg in function.args.args}
            names |= {node.id for node in ast.walk(function)
                      if isinstance(node, ast.Name) and isinstance(node.ctx, ast.Store) and id(node) not in inside}
            for outer in told:
                for inner in [node for node in ast.walk(outer) if isinstance(node, kinds) and node is not outer]:
                    clash = targets_of(inner) & (targets_of(outer) | names)
                    self.assertFalse(clash - {"_"}, (path, inner.lineno, clash))

    def test_methods_properties_and_attributes_have_different_names(self):
        methods, properties, attributes = set(), set(), set()
        for _, _, function in self.functions():
            if function.args.args and function.args.args[0].arg == "self":
                (properties if function.decorator_list else methods).add(function.name)
                attributes |= {node.attr for node in ast.walk(function)
                               if isinstance(node, ast.Attribute) and isinstance(node.ctx, ast.Store)}
        for one, other in ((methods, properties), (methods, attributes), (properties, attributes)):
            self.assertFalse(one & other)

    def test_sets_stand_in_sorted_and_len_alone(self):
        for place, node in self.nodes():
            for child in ast.iter_child_nodes(node):
                if isinstance(child, (ast.Set, ast.SetComp)) or is_call(child, "set"):
                    self.assertTrue(is_call(node, "sorted", "len"), place)

    def test_loops_do_not_change_what_they_go_over(self):
        for place, node in self.nodes():
            if isinstance(node, ast.For):
                over = {each.id for each in ast.walk(node.iter) if isinstance(each, ast.Name)}
                for each in [part for row in node.body for part in ast.walk(row)]:
                    if isinstance(each, ast.Call) and isinstance(each.func, ast.Attribute):
                        changes = each.func.attr in ("append", "pop", "setdefault", "update", "extend", "insert")
                        holder = getattr(each.func.value, "id", None)
                        self.assertFalse(changes and holder in over, place)
                    if isinstance(each, ast.Subscript) and isinstance(each.ctx, ast.Store):
                        self.assertNotIn(getattr(each.value, "id", None), over, place)

    def test_texts_and_lengths_are_plain_returns(self):
        for path, _, node in self.functions():
            if node.name in ("__eq__", "__len__", "__str__", "__bool__", "__contains__", "__iter__"):
                self.assertEqual(len(node.body), 1, (path, node.name))
                self.assertIsInstance(node.body[0], ast.Return, (path, node.name))
            if node.name in ("__len__", "__bool__"):
                self.assertTrue(is_call(node.body[0].value, "len", "bool"), (path, node.name))
            if node.name == "__str__":
                self.assertIsInstance(node.body[0].value, ast.JoinedStr, (path, node.name))
