"""The package keeps to the subset of Python that it is written in, as far as this can be looked up here."""

import ast
import builtins
import io
import os
import tokenize
import unittest

PACKAGE = os.path.join(os.path.dirname(os.path.dirname(os.path.abspath(__file__))), "everypipe")
BUILTINS = """len range enumerate zip min max sum abs sorted reversed int str bool list tuple dict isinstance ord repr
any all divmod Exception ValueError TypeError KeyError IndexError LookupError""".split()
METHODS = """append clear copy count endswith extend find get index insert isalnum isalpha isdigit islower isspace
isupper items join keys ljust lower lstrip partition pop remove replace reverse rfind rjust rpartition rsplit rstrip
setdefault split splitlines startswith strip update upper values zfill bit_length""".split()
BARRED = """register mro elements open input law version_info with_traceback add_note attrgetter breakpoint builtins
compile copyright credits delattr dir eval exec exit gc getattr globals hasattr help id importlib license locals
methodcaller os quit setattr super type vars sys""".split()
BARRED_WORDS = """type typing typing_extensions enum Enum IntEnum StrEnum Flag IntFlag Generic Protocol ABC ABCMeta
namedtuple NamedTuple TypedDict TYPE_CHECKING abstractmethod _wall _WallAttr""".split()
BARRED_ATTRIBUTES = """items keys values pop update append clear extend insert remove reverse setdefault sort args
encode decode hex fromhex format format_map mro""".split()
MODIFYING = "append clear extend insert pop remove reverse setdefault update".split()
OVER_ONCE = "zip enumerate reversed range".split()
NODES = """Module Expr Constant ImportFrom alias FunctionDef ClassDef arguments arg Assign AugAssign Name Attribute
Subscript Slice Tuple List Dict Call If IfExp For While Return Break Continue Pass Raise Try ExceptHandler Delete
BoolOp And Or UnaryOp Not USub BinOp Add Sub Mult FloorDiv Mod Pow Compare Eq NotEq Lt LtE Gt GtE In NotIn Is IsNot
ListComp DictComp SetComp comprehension Starred Load Store Del keyword JoinedStr FormattedValue""".split()


def sources():
    for name in sorted(os.listdir(PACKAGE)):
        if name != "__pycache__":
            with open(os.path.join(PACKAGE, name), encoding="utf-8", newline="") as file:
                yield name, file.read()


def trees():
    return {name[:-3]: ast.parse(text) for name, text in sources()}


def own_names(function):
    """The parameters and local variables of a function."""
    names = [arg.arg for arg in function.args.args]
    names += [node.id for node in ast.walk(function) if isinstance(node, ast.Name) and isinstance(node.ctx, ast.Store)]
    names += [node.name for node in ast.walk(function) if isinstance(node, ast.ExceptHandler) and node.name]
    return names


def functions(tree):
    return [node for node in ast.walk(tree) if isinstance(node, ast.FunctionDef)]


def bound(tree):
    """The names that a file binds at module level, and whether each one is imported."""
    names = []
    for node in tree.body:
        if isinstance(node, ast.ImportFrom):
            names += [(alias.name, True) for alias in node.names]
        elif isinstance(node, (ast.FunctionDef, ast.ClassDef)):
            names.append((node.name, False))
        elif isinstance(node, ast.Assign):
            names += [(target.id, False) for target in node.targets]
    return names


class Language(unittest.TestCase):
    def test_files(self):
        for name, text in sources():
            self.assertRegex(name, r"^[a-z_]+\.py$")
            self.assertTrue(all(sign == "\n" or " " <= sign <= "~" for sign in text), name)
            self.assertLess(text.count("\n"), 400, name)
            self.assertLessEqual(max(map(len, text.split("\n"))), 120, name)

    def test_strings(self):
        for name, text in sources():
            for token in tokenize.generate_tokens(io.StringIO(text).readline):
                if token.type == tokenize.STRING:
                    self.assertNotIn("%", token.string, name)
                    for part in token.string.replace("\\\\", "").split("\\")[1:]:
                        self.assertIn(part[0], "nt\"'", (name, token.string))
                elif token.type == tokenize.NAME:
                    self.assertNotIn(token.string, BARRED_WORDS, name)

    def test_nodes(self):
        for name, tree in trees().items():
            for node in ast.walk(tree):
                self.assertIn(type(node).__name__, NODES, (name, getattr(node, "lineno", 0)))
                place = (name, getattr(node, "lineno", 0))
                if isinstance(node, ast.FunctionDef):
                    self.assertLessEqual(node.end_lineno - node.lineno + 1, 40, place)
                    self.assertEqual(node.decorator_list, [], place)
                    arguments = node.args
                    self.assertFalse(arguments.vararg or arguments.kwarg or arguments.kwonlyargs, place)
                    self.assertFalse(arguments.posonlyargs or node.returns, place)
                    self.assertTrue(all(ast.unparse(default) == "()" for default in arguments.defaults), place)
                    self.assertTrue(all(arg.annotation is None for arg in arguments.args), place)
                    for inner in ast.walk(node):
                        self.assertFalse(inner is not node and isinstance(inner, ast.FunctionDef), place)
                if isinstance(node, ast.Attribute) and isinstance(node.ctx, ast.Store):
                    self.assertIsInstance(node.value, ast.Name, place)
                if isinstance(node, ast.Try):
                    self.assertFalse(node.finalbody, place)
                if isinstance(node, ast.SetComp):
                    self.assertIn("sorted({", ast.unparse(tree), place)
                if isinstance(node, ast.Compare):
                    for operator, right in zip(node.ops, node.comparators):
                        if isinstance(operator, (ast.Is, ast.IsNot)):
                            self.assertIn(ast.unparse(right), ("None", "True", "False"), place)
                if isinstance(node, ast.BinOp) and isinstance(node.op, ast.Pow):
                    self.assertIsInstance(node.right, ast.Constant, place)

    def test_imports(self):
        all_trees = trees()
        uses = {}
        for name, tree in all_trees.items():
            uses[name] = []
            for at, node in enumerate(tree.body):
                if isinstance(node, ast.ImportFrom):
                    package, _, file = node.module.partition(".")
                    self.assertEqual((package, node.level), ("everypipe", 0), name)
                    uses[name].append(file)
                    for alias in node.names:
                        self.assertIsNone(alias.asname, name)
                        self.assertIn((alias.name, False), bound(all_trees[file]), (name, alias.name))
                        used = [n for n in ast.walk(tree) if isinstance(n, ast.Name) and n.id == alias.name]
                        self.assertTrue(used, (name, alias.name))
                else:
                    allowed = (ast.FunctionDef, ast.ClassDef, ast.Assign, ast.Expr)
                    self.assertIsInstance(node, allowed, (name, node.lineno))
        reached = {name: set(files) for name, files in uses.items()}
        for _ in reached:
            for name in reached:
                for file in sorted(reached[name]):
                    reached[name] |= reached[file]
        for name in reached:
            self.assertNotIn(name, reached[name])

    def test_names(self):
        for name, tree in trees().items():
            top = [word for word, _ in bound(tree)]
            self.assertEqual(len(top), len(set(top)), name)
            barred = set(top) & {word for word, is_import in bound(tree) if is_import}
            barred |= {node.name for node in tree.body if isinstance(node, (ast.ClassDef, ast.FunctionDef))}
            for function in functions(tree):
                for word in own_names(function):
                    self.assertNotIn(word, barred, (name, function.name))
                    top.append(word)
            for word in top:
                self.assertNotIn(word, dir(builtins), name)
                self.assertNotIn(word, BARRED, name)
                self.assertRegex(word, r"^(_|_?[A-Za-z][A-Za-z0-9_]*)$", name)

    def test_builtins(self):
        for name, tree in trees().items():
            top = [word for word, _ in bound(tree)]
            measured = set()
            for node in ast.walk(tree):
                if isinstance(node, ast.Name) and isinstance(node.ctx, ast.Load) and hasattr(builtins, node.id):
                    self.assertIn(node.id, [*BUILTINS, "set"], (name, node.lineno))
                if isinstance(node, ast.Call) and ast.unparse(node.func) == "len" and isinstance(node.args[0], ast.Call):
                    measured.add(id(node.args[0].func))
                if isinstance(node, ast.Name) and node.id == "set":
                    self.assertIn(id(node), measured, (name, node.lineno))
            for function in functions(tree):
                known = top + own_names(function) + BUILTINS + ["set"]
                for node in ast.walk(function):
                    if isinstance(node, ast.Name) and isinstance(node.ctx, ast.Load):
                        self.assertIn(node.id, known, (name, node.lineno))
                        self.assertNotEqual(node.id, "_", (name, node.lineno))

    def test_methods_and_attributes(self):
        classes = [node for tree in trees().values() for node in ast.walk(tree) if isinstance(node, ast.ClassDef)]
        methods = {inner.name for node in classes for inner in functions(node)}
        kept = {inner.attr for node in classes for inner in ast.walk(node)
                if isinstance(inner, ast.Attribute) and isinstance(inner.ctx, ast.Store)}
        for word in kept:
            self.assertNotIn(word, BARRED + BARRED_ATTRIBUTES)
            # Sessions have the method, errors the attribute: both stand in the interface.
            self.assertNotIn(word, methods - {"word"})
        for word in methods:
            self.assertNotIn(word, ["decode", "encode", *BARRED])
        for name, tree in trees().items():
            called = {id(node.func) for node in ast.walk(tree) if isinstance(node, ast.Call)}
            for node in ast.walk(tree):
                if isinstance(node, ast.Attribute) and id(node) in called:
                    self.assertIn(node.attr, [*METHODS, *methods, *kept, "__init__"], (name, node.lineno))
                elif isinstance(node, ast.Attribute):
                    self.assertIn(node.attr, kept, (name, node.lineno))
                if isinstance(node, ast.Call) and node.keywords:
                    keyword = {"min": "default", "max": "default", "sorted": "reverse"}.get(ast.unparse(node.func))
                    self.assertEqual([one.arg for one in node.keywords], [keyword], (name, node.lineno))

    def test_errors(self):
        for name, tree in trees().items():
            for node in ast.walk(tree):
                if isinstance(node, ast.Raise):
                    self.assertIsInstance(node.exc, ast.Call, (name, node.lineno))
                    self.assertIsInstance(node.exc.func, ast.Name, (name, node.lineno))
                    self.assertTrue(node.exc.func.id[0].isupper(), (name, node.lineno))
                if isinstance(node, ast.ExceptHandler):
                    self.assertIsInstance(node.type, ast.Name, (name, node.lineno))
                    self.assertIn(node.type.id, ("NeedOpen", "NoMeaning", "SumRefused", "WrongSign"), (name, node.lineno))

    def test_iterated_at_once(self):
        for name, tree in trees().items():
            above = {id(inner): node for node in ast.walk(tree) for inner in ast.iter_child_nodes(node)}
            for node in ast.walk(tree):
                if not isinstance(node, ast.Call):
                    continue
                is_view = isinstance(node.func, ast.Attribute) and node.func.attr in ("items", "keys", "values")
                is_once = isinstance(node.func, ast.Name) and node.func.id in OVER_ONCE
                if is_view or is_once:
                    up = above[id(node)]
                    is_loop = isinstance(up, (ast.For, ast.comprehension)) and up.iter is node
                    is_call = isinstance(up, ast.Call) and ast.unparse(up.func) in ("list", "tuple", "sorted", "sum")
                    self.assertTrue(is_loop or is_call, (name, node.lineno))

    def test_loops_leave_what_they_go_over(self):
        for name, tree in trees().items():
            for loop in ast.walk(tree):
                if not isinstance(loop, ast.For):
                    continue
                over = {ast.unparse(n) for n in ast.walk(loop.iter) if isinstance(n, (ast.Name, ast.Attribute))}
                for node in [inner for row in loop.body for inner in ast.walk(row)]:
                    changed = None
                    if isinstance(node, ast.Call) and isinstance(node.func, ast.Attribute):
                        changed = node.func.value if node.func.attr in MODIFYING else None
                    elif isinstance(node, ast.Subscript) and isinstance(node.ctx, (ast.Store, ast.Del)):
                        changed = node.value
                    if changed is not None:
                        self.assertNotIn(ast.unparse(changed), over, (name, node.lineno))


if __name__ == "__main__":
    unittest.main()
