"""The files of the package, held to the plain subset of Python that they are written in."""

import ast
import builtins
import pathlib
import re
import unittest

PACKAGE = pathlib.Path(__file__).resolve().parent.parent / "sumroads"
FILES = sorted(PACKAGE.rglob("*.py"))
LIBRARY = {
    "math": {"gcd", "lcm", "isqrt", "comb", "perm", "factorial"},
    "itertools": {"product", "combinations", "permutations"},
    "heapq": {"heappush", "heappop", "heapify"},
}
BUILTINS = set("""
len range enumerate zip min max sum abs sorted reversed int str bool list tuple dict set isinstance ord repr any all
divmod Exception ValueError TypeError KeyError IndexError LookupError ZeroDivisionError ArithmeticError OverflowError
RuntimeError NotImplementedError classmethod
""".split())
METHODS = set("""
append clear copy count endswith extend find get index insert isalnum isalpha isdigit islower isspace isupper items
join keys ljust lower lstrip partition pop remove replace reverse rfind rjust rpartition rsplit rstrip setdefault
split splitlines startswith strip update upper values zfill bit_length
""".split())
STATEMENTS = (
    ast.Assign, ast.AugAssign, ast.If, ast.While, ast.For, ast.Return, ast.Break, ast.Continue, ast.Pass, ast.Raise,
    ast.Delete, ast.Expr, ast.FunctionDef, ast.Try)
BARRED = (
    ast.Global, ast.AsyncFunctionDef, ast.Yield, ast.YieldFrom, ast.Await, ast.Lambda, ast.NamedExpr, ast.Starred,
    ast.Div, ast.MatMult, ast.Set, ast.SetComp, ast.GeneratorExp, ast.JoinedStr, ast.AnnAssign)
WORDS = set("""
type typing typing_extensions enum Enum IntEnum StrEnum Flag IntFlag Generic Protocol ABC ABCMeta namedtuple
NamedTuple TypedDict TYPE_CHECKING abstractmethod dataclass overload contextmanager
""".split())
NEVER_NAMED = set("""
register mro elements open input law version_info with_traceback add_note attrgetter breakpoint builtins compile
copyright credits delattr dir eval exec exit gc getattr globals hasattr help id importlib license locals methodcaller
os quit setattr super type vars sys
""".split())
# Numbers also as float, whose names some Pythons give to int as well.
OF_VALUES = {name for kind in (str, int, float, list, dict, set, bytes) for name in dir(kind)}
FREE_ATTRIBUTES = set("count index title find get join lower upper split strip copy add".split())
BARRED_ATTRIBUTES = set("""
items keys values pop update append clear extend insert remove reverse setdefault sort args encode decode hex fromhex
format format_map register mro elements open input law version_info with_traceback add_note
""".split())
FRAME_NAME = r"^(f|tb|co|gi|cr|ag)_(?=[a-z])"
DOUBLE_METHODS = set("""
__init__ __eq__ __repr__ __str__ __len__ __enter__ __exit__ __call__ __iter__ __contains__ __getitem__ __setitem__
""".split())
AT_ONCE = {"range", "zip", "enumerate", "reversed"}
TAKERS = {"list", "tuple", "dict", "sorted", "sum", "any", "all", "enumerate", "zip", "min", "max", "reversed", "len"}
MODIFIERS = {"append", "clear", "extend", "insert", "pop", "remove", "reverse", "setdefault", "update"}


def parsed(path):
    return ast.parse(path.read_text(encoding="utf-8"), str(path))


def is_plain(node):
    if isinstance(node, ast.Constant):
        return not isinstance(node.value, (float, complex))
    if isinstance(node, ast.UnaryOp) and isinstance(node.op, ast.USub):
        return is_plain(node.operand)
    if isinstance(node, (ast.Tuple, ast.List)):
        return all(is_plain(part) for part in node.elts)
    if isinstance(node, ast.Dict):
        return all(is_plain(part) for part in node.keys + node.values)
    return isinstance(node, ast.Name)


def is_docstring(node):
    return isinstance(node, ast.Expr) and isinstance(node.value, ast.Constant) and isinstance(node.value.value, str)


def may_be_attribute(name):
    """Whether an attribute may have the name, by L26, and by L8, L12 and L17."""
    if name in BARRED_ATTRIBUTES or not re.match(r"^_?[A-Za-z][A-Za-z0-9_]*$", name) or re.match(FRAME_NAME, name):
        return False
    return name in FREE_ATTRIBUTES or name not in OF_VALUES


def may_be_method(name):
    return name in DOUBLE_METHODS | METHODS | {"add", "discard"} or name not in OF_VALUES and not name.startswith("__")


def attributes_in(tree):
    """The tuples (row, name) of all attributes that are given or read, those of methods that are called left out."""
    called = {id(node.func) for node in ast.walk(tree) if isinstance(node, ast.Call)}
    found = []
    for node in ast.walk(tree):
        if isinstance(node, ast.Attribute) and id(node) not in called:
            found.append((node.lineno, node.attr))
        elif isinstance(node, ast.ClassDef):
            inside = [part for told in node.body if isinstance(told, (ast.Assign, ast.AnnAssign)) for part in ast.walk(told)]
            found.extend((part.lineno, part.id) for part in inside if isinstance(part, ast.Name) and isinstance(part.ctx, ast.Store))
    return found


def wrong_attributes(tree):
    return [(row, name) for row, name in attributes_in(tree) if not may_be_attribute(name)]


class Language(unittest.TestCase):
    def each(self, kinds):
        for path in FILES:
            for node in ast.walk(parsed(path)):
                if isinstance(node, kinds):
                    yield f"{path.name}:{getattr(node, 'lineno', '?')}", node

    def test_files(self):
        for path in PACKAGE.rglob("*"):
            if "__pycache__" not in path.parts:
                self.assertRegex(path.name, r"^(__init__|[a-z][a-z0-9]*)\.py$")
        self.assertLessEqual(len(FILES), 100)

    def test_sizes_and_characters(self):
        for path in FILES:
            lines = path.read_text(encoding="utf-8").split("\n")
            self.assertLessEqual(len(lines), 399, path)
            self.assertTrue(all(len(line) <= 120 for line in lines), path)
            self.assertTrue(all(" " <= sign <= "~" for line in lines for sign in line), path)
        for where, node in self.each(ast.FunctionDef):
            self.assertLessEqual(node.end_lineno - node.lineno + 1, 40, where)

    def test_module_level(self):
        for path in FILES:
            bound = []
            for at, node in enumerate(parsed(path).body):
                where = f"{path.name}:{node.lineno}"
                if isinstance(node, ast.ImportFrom):
                    bound.extend(alias.asname or alias.name for alias in node.names)
                elif isinstance(node, (ast.FunctionDef, ast.ClassDef)):
                    bound.append(node.name)
                elif isinstance(node, ast.Assign):
                    self.assertTrue(len(node.targets) == 1 and isinstance(node.targets[0], ast.Name), where)
                    self.assertTrue(is_plain(node.value), where)
                    bound.append(node.targets[0].id)
                else:
                    self.assertTrue(at == 0 and is_docstring(node), where)
            self.assertEqual(len(bound), len(set(bound)), path)

    def test_imports(self):
        owners = {}
        for path in FILES:
            owners[path.stem] = {
                node.name for node in parsed(path).body if isinstance(node, (ast.FunctionDef, ast.ClassDef))
            } | {node.targets[0].id for node in parsed(path).body if isinstance(node, ast.Assign)}
        needs = {path.stem: set() for path in FILES}
        for path in FILES:
            for node in ast.walk(parsed(path)):
                self.assertNotIsInstance(node, ast.Import)
                if isinstance(node, ast.ImportFrom):
                    names = {alias.name for alias in node.names}
                    self.assertTrue(node.level == 0 and not any(alias.asname for alias in node.names), path)
                    if node.module in LIBRARY:
                        self.assertLessEqual(names, LIBRARY[node.module], path)
                    else:
                        self.assertTrue(node.module.startswith("sumroads."), path)
                        needs[path.stem].add(node.module[len("sumroads."):])
                        self.assertLessEqual(names, owners[node.module[len("sumroads."):]], path)
        while needs:
            free = [name for name, wanted in needs.items() if not wanted & set(needs)]
            self.assertTrue(free, f"files import from each other: {sorted(needs)}")
            for name in free:
                del needs[name]

    def test_imported_names_are_used(self):
        for path in FILES:
            told = [alias.name for node in parsed(path).body if isinstance(node, ast.ImportFrom) for alias in node.names]
            used = {node.id for node in ast.walk(parsed(path)) if isinstance(node, ast.Name)}
            self.assertLessEqual(set(told), used, path)

    def test_statements(self):
        for where, node in self.each(BARRED):
            self.fail(f"{where}: {type(node).__name__}")
        for where, function in self.each(ast.FunctionDef):
            self.assertLessEqual({ast.unparse(told) for told in function.decorator_list}, {"classmethod"}, where)
            for node in ast.walk(function):
                if isinstance(node, ast.stmt):
                    self.assertIsInstance(node, STATEMENTS, where)
        for where, node in self.each(ast.Constant):
            self.assertNotIsInstance(node.value, (float, complex), where)
            if isinstance(node.value, str):
                self.assertNotIn("%", node.value, where)
        for where, node in self.each(ast.BinOp):
            if isinstance(node.op, ast.Pow):
                self.assertIsInstance(node.right, ast.Constant, where)

    def test_names(self):
        barred = NEVER_NAMED | set(dir(builtins))
        for path in FILES:
            tree = parsed(path)
            fixed = {alias.name for node in tree.body if isinstance(node, ast.ImportFrom) for alias in node.names}
            fixed |= {node.name for node in tree.body if isinstance(node, ast.ClassDef)}
            told = {node.name for node in tree.body if isinstance(node, (ast.FunctionDef, ast.ClassDef))}
            methods = set()
            for node in ast.walk(tree):
                if isinstance(node, ast.ClassDef):
                    methods |= {id(part) for part in node.body}
            for node in ast.walk(tree):
                named = None
                if isinstance(node, ast.arg):
                    named = node.arg
                elif isinstance(node, ast.Name) and isinstance(node.ctx, ast.Store):
                    named = node.id
                elif isinstance(node, (ast.FunctionDef, ast.ClassDef)) and id(node) not in methods:
                    named = node.name
                if named is None:
                    continue
                where = f"{path.name}:{node.lineno} {named}"
                self.assertNotIn(named, barred, where)
                self.assertRegex(named, r"^(_|_?[A-Za-z][A-Za-z0-9_]*)$", where)
                if not (isinstance(node, (ast.FunctionDef, ast.ClassDef)) and named in told):
                    self.assertNotIn(named, fixed, where)
        for where, node in self.each(ast.Name):
            self.assertFalse(node.id == "_" and isinstance(node.ctx, ast.Load), where)
            self.assertFalse(node.id in dir(builtins) and node.id not in BUILTINS, where)

    def test_words(self):
        for path in FILES:
            tree = parsed(path)
            told = {node.value.value for node in ast.walk(tree) if is_docstring(node)}
            texts = [node.value for node in ast.walk(tree) if isinstance(node, ast.Constant)
                     and isinstance(node.value, str) and node.value not in told]
            names = [getattr(node, "id", getattr(node, "attr", "")) for node in ast.walk(tree)]
            for text in texts + names:
                self.assertFalse(WORDS & set(re.findall(r"[A-Za-z_]+", text)), path)

    def test_is(self):
        for where, node in self.each(ast.Compare):
            for op, right in zip(node.ops, node.comparators):
                if isinstance(op, (ast.Is, ast.IsNot)):
                    self.assertTrue(isinstance(right, ast.Constant) and right.value in (None, True, False), where)

    def test_methods(self):
        own = {node.name for _, node in self.each(ast.FunctionDef)}
        for where, node in self.each(ast.Call):
            if isinstance(node.func, ast.Attribute):
                self.assertIn(node.func.attr, METHODS | own, where)
            elif isinstance(node.func, ast.Name) and node.func.id in BUILTINS:
                self.assertLessEqual({word.arg for word in node.keywords}, {"key", "default"}, where)

    def test_names_of_attributes_and_own_methods(self):
        for path in FILES:
            self.assertEqual(wrong_attributes(parsed(path)), [], path)
        for where, node in self.each(ast.ClassDef):
            for part in node.body:
                if isinstance(part, ast.FunctionDef):
                    self.assertTrue(may_be_method(part.name), f"{where} {part.name}")

    def test_wrong_names_of_attributes_are_seen(self):
        barred = """items keys values pop update append clear extend insert remove reverse setdefault sort args encode decode
            hex fromhex format discard union bit_length is_integer conjugate to_bytes real startswith isdigit replace
            format_map mro register f_back tb_next co_names __odd__ _1""".split()
        for name in barred:
            for source in ("self.{} = 1", "for self.{} in rows: pass", "one, (self.{}, two) = rows", "self.things[0].{} += 1",
                           "told = thing.{} if thing else 0", "class Box:\n    {} = 1", "class Box:\n    {}: int = 1"):
                told = source.format(name)
                self.assertEqual(wrong_attributes(ast.parse(told)), [(told.count("\n") + 1, name)], told)
        free = """count index title find get join lower upper split strip copy add of_sort what value position _rows f_ fold
            sorts told_sums""".split()
        for name in free:
            for source in ("self.{} = 1", "told = thing.{}", "class Box:\n    {} = 1"):
                self.assertEqual(wrong_attributes(ast.parse(source.format(name))), [], name)
        self.assertEqual(wrong_attributes(ast.parse("rows.append(words.items())")), [])

    def test_wrong_names_of_own_methods_are_seen(self):
        for name in "append sort_by add discard get items __init__ __len__ do".split():
            self.assertTrue(may_be_method(name), name)
        for name in "decode encode sort union hex conjugate __odd__ __hash__ __dict__".split():
            self.assertFalse(may_be_method(name), name)

    def test_iterated_at_once(self):
        for path in FILES:
            tree = parsed(path)
            right = set()
            for node in ast.walk(tree):
                if isinstance(node, (ast.For, ast.comprehension)):
                    right.add(id(node.iter))
                elif isinstance(node, ast.Call) and isinstance(node.func, ast.Name) and node.func.id in TAKERS:
                    right |= {id(part) for part in node.args}
            for node in ast.walk(tree):
                if isinstance(node, ast.Call):
                    name = getattr(node.func, "id", getattr(node.func, "attr", ""))
                    if name in AT_ONCE or (name in ("items", "keys", "values")):
                        self.assertIn(id(node), right, f"{path.name}:{node.lineno}")

    def test_loops_do_not_change_what_they_go_over(self):
        for where, loop in self.each(ast.For):
            over = {ast.unparse(node) for node in ast.walk(loop.iter) if isinstance(node, (ast.Name, ast.Attribute))}
            for node in ast.walk(loop):
                if isinstance(node, ast.Call) and isinstance(node.func, ast.Attribute) and node.func.attr in MODIFIERS:
                    self.assertNotIn(ast.unparse(node.func.value), over, where)
                if isinstance(node, ast.Subscript) and not isinstance(node.ctx, ast.Load):
                    if "range" not in over:
                        self.assertNotIn(ast.unparse(node.value), over, where)
