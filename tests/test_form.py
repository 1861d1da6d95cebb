"""The form of the code: what can be seen plainly of ../shared/LANGUAGE.md, rule by rule."""

import ast
import builtins
import pathlib
import re
import unittest

PACKAGE = pathlib.Path(__file__).resolve().parent.parent / "feasted"
LIBRARY = {
    "math": {"gcd", "lcm", "isqrt", "comb", "perm", "factorial"},
    "heapq": {"heappush", "heappop", "heapify", "heapreplace", "heappushpop"},
    "itertools": {"product", "combinations", "permutations"},
}
BUILTINS = set("""len range enumerate zip min max sum abs sorted reversed int str bool bytes list tuple dict set
    isinstance ord repr any all divmod Exception ValueError TypeError KeyError IndexError LookupError
    ZeroDivisionError ArithmeticError OverflowError RuntimeError NotImplementedError AttributeError
    StopIteration NotImplemented""".split())
METHODS = set("""append clear copy count endswith extend find get index insert isalnum isalpha isdigit islower isspace
    isupper items join keys ljust lower lstrip partition pop remove replace reverse rfind rjust rpartition rsplit
    rstrip setdefault split splitlines startswith strip update upper values zfill bit_length add discard""".split())
BARRED = set("""register mro elements open input law version_info with_traceback add_note attrgetter breakpoint builtins
    compile copyright credits delattr dir eval exec exit gc getattr globals hasattr help id importlib license locals
    methodcaller os quit setattr super type vars sys""".split())
BARRED_WORDS = set("""type typing typing_extensions enum Enum IntEnum StrEnum Flag IntFlag Generic Protocol ABC ABCMeta
    namedtuple NamedTuple TypedDict TYPE_CHECKING abstractmethod dataclass overload contextmanager""".split())
BARRED_STARTS = r"^_(wall|pe_|dcw_|enum_|cm_|twin_re_|lay_|law_|stub_|sre|cold|tuplegetter|outside|record|written_out)"
DUNDERS = {"__init__", "__eq__", "__repr__", "__str__", "__len__"}
STATEMENTS = (ast.Assign, ast.AugAssign, ast.If, ast.While, ast.For, ast.Return, ast.Break, ast.Continue, ast.Pass,
              ast.Raise, ast.Assert, ast.Delete, ast.Expr, ast.FunctionDef, ast.ClassDef, ast.ImportFrom, ast.Try)
BARRED_NODES = (ast.GeneratorExp, ast.Yield, ast.YieldFrom, ast.Await, ast.Global, ast.Nonlocal, ast.Div, ast.AnnAssign,
                ast.NamedExpr, ast.Match, ast.With)
SCOPES = (ast.FunctionDef, ast.Lambda)


def files():
    return sorted(PACKAGE.rglob("*.py"))


def trees():
    for file in files():
        yield file.name, ast.parse(file.read_text(encoding="utf-8"))


def every(kinds):
    """All nodes of some kinds, each with where it stands."""
    for name, tree in trees():
        for node in ast.walk(tree):
            if isinstance(node, kinds):
                yield f"{name}:{getattr(node, 'lineno', 0)}", node


def called(node):
    """The bare name that a call calls, None for all else."""
    return node.func.id if isinstance(node, ast.Call) and isinstance(node.func, ast.Name) else None


def bound_in(scope):
    """The names that a function binds: parameters, assigned names, loops, comprehensions, nested functions."""
    names = []
    for node in ast.walk(scope):
        if isinstance(node, ast.arg):
            names.append(node.arg)
        elif isinstance(node, ast.Name) and isinstance(node.ctx, ast.Store):
            names.append(node.id)
        elif isinstance(node, ast.FunctionDef) and node is not scope:
            names.append(node.name)
        elif isinstance(node, ast.ExceptHandler) and node.name:
            names.append(node.name)
    return names


def bound_at_module_level(tree):
    names = []
    for node in tree.body:
        if isinstance(node, ast.ImportFrom):
            names.extend(alias.name for alias in node.names)
        elif isinstance(node, (ast.FunctionDef, ast.ClassDef)):
            names.append(node.name)
        elif isinstance(node, ast.Assign):
            names.extend(target.id for target in node.targets)
    return names


class Files(unittest.TestCase):
    def test_folder(self):
        for path in PACKAGE.rglob("*"):
            if "__pycache__" not in path.parts:
                self.assertRegex(str(path.relative_to(PACKAGE)), r"^[a-z0-9_]+\.py$")
                self.assertNotIn(path.stem, BARRED | BARRED_WORDS | set(dir(builtins)))
        self.assertIn(PACKAGE / "__init__.py", files())
        self.assertLessEqual(len(files()), 100)

    def test_sizes(self):
        for file in files():
            lines = file.read_text(encoding="utf-8").split("\n")
            self.assertLessEqual(len(lines) - 1, 399, file.name)
            for number, line in enumerate(lines, 1):
                self.assertLessEqual(len(line), 120, f"{file.name}:{number}")
        for place, node in every(ast.FunctionDef):
            self.assertLessEqual(node.end_lineno - node.lineno + 1, 40, place)

    def test_characters(self):
        for file in files():
            data = file.read_bytes()
            self.assertLessEqual({byte for byte in data}, set(range(32, 127)) | {10}, file.name)
            self.assertTrue(data.endswith(b"\n"), file.name)
            for number, line in enumerate(data.decode().split("\n"), 1):
                self.assertEqual(line, line.rstrip(), f"{file.name}:{number}")

    def test_strings(self):
        for place, node in every(ast.Constant):
            if isinstance(node.value, str):
                self.assertNotIn("%", node.value, place)
                self.assertFalse(node.value.startswith("__") or node.value.endswith("__"), place)
                self.assertNotRegex(node.value, r"\._{1,2}$", place)
            self.assertNotIsInstance(node.value, (float, complex, bytes), place)
        for file in files():
            for escape in re.findall(r"\\.", file.read_text()):
                self.assertIn(escape, ["\\n", "\\t", "\\\\", "\\'", '\\"'], file.name)

    def test_words(self):
        for file in files():
            code = re.sub(r'"""(.|\n)*?"""|#.*', "", file.read_text())
            words = set(re.findall(r"[A-Za-z_]+", code))
            self.assertFalse(words & BARRED_WORDS, file.name)
            self.assertNotIn("_wall", file.read_text())


class Imports(unittest.TestCase):
    def test_imports(self):
        at_module_level = {name[:-3]: bound_at_module_level(tree) for name, tree in trees()}
        for place, node in every((ast.Import, ast.ImportFrom)):
            self.assertIsInstance(node, ast.ImportFrom, place)
            self.assertEqual(node.level, 0, place)
            for alias in node.names:
                self.assertIsNone(alias.asname, place)
                if node.module in LIBRARY:
                    self.assertIn(alias.name, LIBRARY[node.module], place)
                else:
                    folder, _, file = node.module.partition(".")
                    self.assertEqual(folder, "feasted", place)
                    self.assertIn(alias.name, at_module_level[file], place)

    def test_from_the_file_that_defines(self):
        own = {}
        for name, tree in trees():
            own[name[:-3]] = [node.name for node in tree.body if isinstance(node, (ast.FunctionDef, ast.ClassDef))]
            own[name[:-3]] += [node.targets[0].id for node in tree.body if isinstance(node, ast.Assign)]
        for place, node in every(ast.ImportFrom):
            if node.module not in LIBRARY:
                for alias in node.names:
                    self.assertIn(alias.name, own[node.module.partition(".")[2]], place)

    def test_no_rings(self):
        needs = {name[:-3]: {node.module.partition(".")[2] for node in tree.body if isinstance(node, ast.ImportFrom)
                             and node.module not in LIBRARY} for name, tree in trees()}
        while needs:
            free = [file for file in needs if not needs[file] & set(needs)]
            self.assertTrue(free, f"a ring among {sorted(needs)}")
            for file in free:
                del needs[file]

    def test_at_the_top_and_used(self):
        for name, tree in trees():
            kinds = [isinstance(node, ast.ImportFrom) for node in tree.body[1:]]
            self.assertEqual(kinds, sorted(kinds, reverse=True), name)
            read = {node.id for node in ast.walk(tree) if isinstance(node, ast.Name)}
            imported = [alias.name for node in tree.body if isinstance(node, ast.ImportFrom) for alias in node.names]
            self.assertLessEqual(set(imported), read, name)

    def test_own_helpers_are_used(self):
        for name, tree in trees():
            read = {node.id for node in ast.walk(tree) if isinstance(node, ast.Name)}
            for node in tree.body:
                if isinstance(node, ast.FunctionDef) and node.name.startswith("_"):
                    self.assertIn(node.name, read, name)


class Names(unittest.TestCase):
    def test_module_level(self):
        for name, tree in trees():
            self.assertIsNotNone(ast.get_docstring(tree), name)
            for node in tree.body[1:]:
                self.assertIsInstance(node, (ast.ImportFrom, ast.FunctionDef, ast.ClassDef, ast.Assign), name)
                if isinstance(node, ast.Assign):
                    self.assertEqual(len(node.targets), 1, name)
                    ast.literal_eval(node.value)
            names = bound_at_module_level(tree)
            self.assertEqual(len(names), len(set(names)), name)

    def test_no_name_of_a_builtin_or_import(self):
        for name, tree in trees():
            top = set(bound_at_module_level(tree))
            self.assertFalse(top & set(dir(builtins)), name)
            for node in ast.walk(tree):
                if isinstance(node, SCOPES):
                    names = set(bound_in(node)) - {"self"}
                    self.assertFalse(names & (top | set(dir(builtins))), f"{name}:{node.lineno}")

    def test_plain_names(self):
        for place, node in every((ast.Name, ast.arg, ast.Attribute, ast.FunctionDef, ast.ClassDef, ast.keyword)):
            name = [getattr(node, field) for field in ("id", "arg", "attr", "name") if hasattr(node, field)][0]
            self.assertNotIn(name, BARRED, place)
            if name not in DUNDERS:
                self.assertRegex(name, r"^(_|_?[A-Za-z][A-Za-z0-9_]*)$", place)
            self.assertNotRegex(name, BARRED_STARTS, place)
            if name == "_" and not isinstance(node, ast.arg):
                self.assertIsInstance(node.ctx, ast.Store, place)

    def test_known_builtins_only(self):
        for name, tree in trees():
            known = set(bound_at_module_level(tree)) | BUILTINS
            for node in ast.walk(tree):
                if isinstance(node, SCOPES):
                    known |= set(bound_in(node))
            for node in ast.walk(tree):
                if isinstance(node, ast.Name):
                    self.assertIn(node.id, known, f"{name}:{node.lineno}")

    def test_known_methods_only(self):
        own = {each.name for _, node in every(ast.ClassDef) for each in node.body if isinstance(each, ast.FunctionDef)}
        stored = {node.attr for _, node in every(ast.Attribute) if isinstance(node.ctx, ast.Store)}
        for place, node in every(ast.Call):
            if isinstance(node.func, ast.Attribute):
                self.assertIn(node.func.attr, METHODS | own, place)
                if node.func.attr in METHODS:
                    self.assertEqual(node.keywords, [], place)
        for place, node in every(ast.Attribute):
            self.assertIn(node.attr, METHODS | own | stored, place)
        for place, node in every(ast.ClassDef):
            methods = {each.name for each in node.body if isinstance(each, ast.FunctionDef)}
            attributes = {each.attr for each in ast.walk(node) if isinstance(each, ast.Attribute)
                          and isinstance(each.ctx, ast.Store)}
            self.assertFalse(methods & attributes, place)
        self.assertFalse(own & stored)


class Statements(unittest.TestCase):
    def test_kinds(self):
        for place, node in every(ast.stmt):
            self.assertIsInstance(node, STATEMENTS, place)
        for place, node in every(BARRED_NODES):
            self.fail(f"{place}: {node.__class__.__name__}")
        for place, node in every((ast.FunctionDef, ast.ClassDef)):
            self.assertEqual(node.decorator_list, [], place)
        for place, node in every(ast.FunctionDef):
            self.assertIsNone(node.returns, place)
            for argument in ast.walk(node.args):
                self.assertIsNone(getattr(argument, "annotation", None), place)

    def test_behind_stars_stand_names(self):
        for place, node in every(ast.Call):
            if any(isinstance(argument, ast.Starred) for argument in node.args):
                for argument in node.args:
                    inner = argument.value if isinstance(argument, ast.Starred) else argument
                    self.assertIsInstance(inner, (ast.Name, ast.Constant), place)
            self.assertTrue(all(keyword.arg for keyword in node.keywords), place)

    def test_own_errors_alone_are_caught(self):
        """One at a time, by its name; of the error its own attributes are read, nothing else."""
        own = {node.name for name, tree in trees() if name in ("errors.py", "refusals.py") for node in tree.body
               if isinstance(node, ast.ClassDef)}
        for place, node in every(ast.ExceptHandler):
            self.assertIsInstance(node.type, ast.Name, place)
            self.assertIn(node.type.id, own, place)
            inner = list(ast.walk(node))
            kept = [each.value for each in inner if isinstance(each, ast.Attribute)]
            for each in inner:
                if isinstance(each, ast.Name) and each.id == node.name:
                    self.assertIn(each, kept, place)

    def test_finally_only_puts_back(self):
        for place, node in every(ast.Try):
            for statement in node.finalbody:
                self.assertIsInstance(statement, ast.Assign, place)
                for part in ast.walk(statement):
                    self.assertIsInstance(part, (ast.Assign, ast.Tuple, ast.Name, ast.Attribute, ast.expr_context), place)

    def test_double_underscores(self):
        for place, node in every(ast.FunctionDef):
            if node.name.startswith("__"):
                self.assertIn(node.name, DUNDERS, place)

    def test_is(self):
        for place, node in every(ast.Compare):
            for operator, side in zip(node.ops, node.comparators):
                if isinstance(operator, (ast.Is, ast.IsNot)):
                    self.assertIsInstance(side, ast.Constant, place)

    def test_no_powers_of_names(self):
        for place, node in every(ast.BinOp):
            if isinstance(node.op, ast.Pow):
                self.assertIsInstance(node.right, ast.Constant, place)

    def test_raised_on_the_spot(self):
        for place, node in every(ast.Raise):
            self.assertIsInstance(node.exc, ast.Call, place)
            self.assertIsInstance(node.exc.func, ast.Name, place)

    def test_what_is_iterated_is_not_changed(self):
        changing = {"append", "clear", "extend", "insert", "pop", "remove", "reverse", "setdefault", "update"}
        for place, loop in every(ast.For):
            if not isinstance(loop.iter, (ast.Name, ast.Attribute)):
                continue
            over = ast.dump(loop.iter)
            for node in ast.walk(loop):
                if isinstance(node, ast.Subscript) and not isinstance(node.ctx, ast.Load):
                    self.assertNotEqual(ast.dump(node.value), over, place)
                if isinstance(node, ast.Call) and isinstance(node.func, ast.Attribute) and node.func.attr in changing:
                    self.assertNotEqual(ast.dump(node.func.value), over, place)

    def test_sets(self):
        """Stored once and asked, added to, measured or sorted, or written where it is measured or sorted."""
        for name, tree in trees():
            for scope in ast.walk(tree):
                if not isinstance(scope, ast.FunctionDef):
                    continue
                stored = []
                allowed = set()
                for node in ast.walk(scope):
                    if isinstance(node, ast.Assign) and self.makes_set(node.value):
                        stored.append(node.targets[0].id)
                        allowed.add(node.value)
                    if called(node) in ("len", "sorted"):
                        allowed |= set(node.args)
                for node in ast.walk(scope):
                    if self.makes_set(node):
                        self.assertIn(node, allowed, f"{name}:{node.lineno}")
                for each in stored:
                    self.assertEqual(bound_in(scope).count(each), 1, f"{name}:{scope.lineno}")
                    reads = [node for node in ast.walk(scope) if isinstance(node, ast.Name) and node.id == each
                             and isinstance(node.ctx, ast.Load)]
                    self.assertEqual(len(reads), self.asked(scope, each), f"{name}:{scope.lineno}")

    def makes_set(self, node):
        if isinstance(node, (ast.Set, ast.SetComp)):
            return True
        return called(node) == "set"

    def asked(self, scope, name):
        """How often a stored set is tested with `in`, or added to."""
        many = 0
        for node in ast.walk(scope):
            if isinstance(node, ast.Compare):
                many += sum(isinstance(operator, (ast.In, ast.NotIn)) and isinstance(side, ast.Name) and side.id == name
                            for operator, side in zip(node.ops, node.comparators))
            if isinstance(node, ast.Call) and isinstance(node.func, ast.Attribute) and node.func.attr == "add":
                many += isinstance(node.func.value, ast.Name) and node.func.value.id == name
        return many

    def test_views_are_iterated_on_the_spot(self):
        takers = {"list", "tuple", "dict", "sorted", "sum", "any", "all", "enumerate", "zip", "min", "max"}
        takers |= {"permutations"}
        for name, tree in trees():
            allowed = set()
            for node in ast.walk(tree):
                if isinstance(node, (ast.For, ast.comprehension)):
                    allowed.add(node.iter)
                if called(node) in takers or (called(node) == "reversed" and called(node.args[0]) == "range"):
                    allowed |= set(node.args)
            for node in ast.walk(tree):
                if isinstance(node, ast.Call):
                    word = getattr(node.func, "id", getattr(node.func, "attr", ""))
                    if word in {"zip", "enumerate", "reversed", "range", "items", "keys", "values"}:
                        self.assertIn(node, allowed, f"{name}:{node.lineno}")
