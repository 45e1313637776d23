"""Some rules of ../shared/LANGUAGE.md that can be checked by going through the package's code."""

import ast
import builtins
import os
import re
import unittest

PACKAGE = os.path.join(os.path.dirname(os.path.dirname(os.path.abspath(__file__))), "handedkeys")
BUILTINS = set("""len range enumerate zip min max sum abs sorted reversed int str bool list tuple dict set isinstance
    ord repr any all divmod iter super ValueError NotImplemented property""".split())
METHODS = set("""append clear copy count endswith extend find get index insert isalnum isalpha isdigit islower isspace
    isupper items join keys ljust lower lstrip partition pop remove replace reverse rfind rjust rpartition rsplit
    rstrip setdefault split splitlines startswith strip update upper values zfill bit_length isascii add discard""".split())
DUNDERS = set("""__init__ __eq__ __repr__ __str__ __len__ __enter__ __exit__ __call__ __iter__ __add__ __sub__
    __contains__ __getitem__ __bool__""".split())
BARRED_NAMES = set("""register mro elements open input law version_info with_traceback add_note attrgetter breakpoint
    builtins compile copyright credits delattr dir eval exec exit gc getattr globals hasattr help id importlib license
    locals methodcaller os quit setattr type vars sys""".split())
BARRED_WORDS = re.compile(r"\b(type|typing|typing_extensions|enum|Enum|IntEnum|StrEnum|Flag|IntFlag|Generic|Protocol|"
                          r"ABC|ABCMeta|namedtuple|NamedTuple|TypedDict|TYPE_CHECKING|abstractmethod)\b|"
                          r"dataclass|overload|contextmanager|_wall|Meta|metaclass=")
WALKS = ("enumerate", "zip", "reversed")
VIEWS = ("items", "keys", "values")
CHANGES = ("append", "extend", "insert", "pop", "remove", "reverse", "clear", "sort", "update", "setdefault")
LISTLESS = ("any", "all", "sum", "min", "max", "sorted", "list", "tuple", "dict", "set")
STATEMENTS = (ast.Assign, ast.AugAssign, ast.If, ast.While, ast.For, ast.Return, ast.Break, ast.Continue, ast.Pass,
              ast.Raise, ast.Assert, ast.Delete, ast.Nonlocal, ast.With, ast.Yield, ast.Try, ast.Expr,
              ast.FunctionDef, ast.ClassDef, ast.ImportFrom)


def sources():
    for name in sorted(os.listdir(PACKAGE)):
        if name != "__pycache__":
            with open(os.path.join(PACKAGE, name), encoding="utf-8") as file:
                yield name, file.read()


def trees():
    for name, text in sources():
        yield name, ast.parse(text)


def bound_pairs(function):
    """All pairs of names of a function of which one is given what the other one is."""
    for node in ast.walk(function):
        if isinstance(node, ast.Assign):
            for target in node.targets:
                both = [(target, node.value)]
                if isinstance(target, ast.Tuple) and isinstance(node.value, ast.Tuple):
                    both = list(zip(target.elts, node.value.elts))
                for one, other in both:
                    for value in [other] + [getattr(other, part) for part in ("body", "orelse") if hasattr(other, part)]:
                        if isinstance(one, ast.Name) and isinstance(value, ast.Name):
                            yield one.id, value.id


def walked_names(walk):
    """The names of what a loop walks, not those of a copy."""
    if isinstance(walk, ast.Call):
        inner = walk.args if isinstance(walk.func, ast.Name) and walk.func.id in WALKS else []
        inner += [walk.func.value] if isinstance(walk.func, ast.Attribute) and walk.func.attr in VIEWS else []
        return [name for part in inner for name in walked_names(part)]
    if isinstance(walk, (ast.IfExp, ast.BoolOp)):
        parts = walk.values if isinstance(walk, ast.BoolOp) else [walk.body, walk.orelse]
        return [name for part in parts for name in walked_names(part)]
    return [walk.id] if isinstance(walk, ast.Name) else []


def changed_in(node):
    """The name that a part of a loop changes; None where it changes none."""
    if isinstance(node, ast.Call) and isinstance(node.func, ast.Attribute) and isinstance(node.func.value, ast.Name):
        return node.func.value.id if node.func.attr in CHANGES else None
    if isinstance(node, ast.Subscript) and not isinstance(node.ctx, ast.Load) and isinstance(node.value, ast.Name):
        return node.value.id
    return node.target.id if isinstance(node, ast.AugAssign) and isinstance(node.target, ast.Name) else None


def changed_walks(function):
    """The ascending list of the lines on which a loop changes what it walks, by whatever name (L23)."""
    kin = {}
    for one, other in bound_pairs(function):
        joint = kin.get(one, {one}) | kin.get(other, {other})
        for name in joint:
            kin[name] = joint
    lines = set()
    for loop in ast.walk(function):
        walks = [loop.iter] if isinstance(loop, ast.For) else [part.iter for part in getattr(loop, "generators", [])]
        walked = {other for walk in walks for name in walked_names(walk) for other in kin.get(name, {name})}
        lines |= {node.lineno for node in ast.walk(loop) if changed_in(node) in walked}
    return sorted(lines)


class LanguageTest(unittest.TestCase):

    def test_files_lines_and_signs(self):
        for name, text in sources():
            self.assertRegex(name, r"^[a-z_][a-z0-9_]*\.py$")
            lines = text.split("\n")
            self.assertLessEqual(len(lines), 399, name)
            for number, line in enumerate(lines, 1):
                where = "%s:%d" % (name, number)
                self.assertLessEqual(len(line), 120, where)
                self.assertRegex(line, r"^[ -~]*$", where)
                self.assertIsNone(BARRED_WORDS.search(line.split("#")[0]), where)

    def test_functions_are_small(self):
        for name, tree in trees():
            for node in ast.walk(tree):
                if isinstance(node, ast.FunctionDef):
                    self.assertLessEqual(node.end_lineno - node.lineno + 1, 40, (name, node.name))
                    self.assertIsNotNone(ast.get_docstring(node) or node.name.startswith("__") or None, (name, node.name))

    def test_imports(self):
        needs = {}
        for name, tree in trees():
            module = "handedkeys." + name[:-3]
            needs[module] = set()
            for node in tree.body:
                if isinstance(node, ast.ImportFrom) and node.module == "math":
                    self.assertEqual([(alias.name, alias.asname) for alias in node.names], [("gcd", None)], name)
                elif isinstance(node, ast.ImportFrom):
                    self.assertTrue(node.module.startswith("handedkeys.") and node.level == 0, name)
                    needs[module].add(node.module)
                    target = ast.parse(dict(sources())[node.module.split(".")[1] + ".py"])
                    defined = [part.name for part in target.body if isinstance(part, (ast.FunctionDef, ast.ClassDef))]
                    defined += [part.targets[0].id for part in target.body if isinstance(part, ast.Assign)]
                    for alias in node.names:
                        self.assertIn(alias.name, defined, name)
                        used = [part for part in ast.walk(tree) if isinstance(part, ast.Name) and part.id == alias.name]
                        self.assertTrue(used, (name, alias.name))
        while needs:
            free = [module for module in needs if not needs[module] & set(needs)]
            self.assertTrue(free, "imports in a circle: %s" % sorted(needs))
            for module in free:
                del needs[module]

    def test_statements_and_module_level(self):
        for name, tree in trees():
            for node in tree.body:
                self.assertIsInstance(node, (ast.Expr, ast.ImportFrom, ast.FunctionDef, ast.ClassDef, ast.Assign), name)
            for node in ast.walk(tree):
                where = (name, getattr(node, "lineno", None))
                if isinstance(node, ast.stmt):
                    self.assertIsInstance(node, STATEMENTS, where)
                self.assertNotIsInstance(node, (ast.Div, ast.MatMult, ast.Await, ast.Global, ast.JoinedStr), where)
                if isinstance(node, ast.Constant):
                    self.assertNotIsInstance(node.value, (float, complex, bytes), where)
                if isinstance(node, ast.Compare) and any(isinstance(op, (ast.Is, ast.IsNot)) for op in node.ops):
                    self.assertIn(node.comparators[0].value, (None, True, False), where)

    def test_names(self):
        for name, tree in trees():
            taken = set(dir(builtins)) - {"_"}
            outer = [node.name for node in tree.body if isinstance(node, ast.ClassDef)]
            outer += [alias.name for node in tree.body if isinstance(node, ast.ImportFrom) for alias in node.names]
            for node in ast.walk(tree):
                where = (name, getattr(node, "lineno", None))
                bound = []
                if isinstance(node, ast.Name) and isinstance(node.ctx, ast.Store):
                    bound = [node.id]
                elif isinstance(node, ast.arg):
                    bound = [node.arg]
                for one in bound:
                    self.assertNotIn(one, taken | BARRED_NAMES | set(outer), where)
                if isinstance(node, ast.Attribute):
                    self.assertNotIn(node.attr, ("register", "mro", "elements", "open", "input", "law"), where)
                if isinstance(node, ast.Name) and isinstance(node.ctx, ast.Load) and node.id in taken:
                    self.assertIn(node.id, BUILTINS, where)

    def test_calls(self):
        own = set()
        for name, tree in trees():
            own |= set(node.name for node in ast.walk(tree) if isinstance(node, ast.FunctionDef))
        for name, tree in trees():
            for node in ast.walk(tree):
                where = (name, getattr(node, "lineno", None))
                self.assertNotIsInstance(node, (ast.GeneratorExp, ast.Starred), where)
                if isinstance(node, ast.Call) and isinstance(node.func, ast.Attribute):
                    self.assertIn(node.func.attr, METHODS | own | DUNDERS, where)
                if isinstance(node, ast.Call) and isinstance(node.func, ast.Name) and node.func.id == "set":
                    text = dict(sources())[name].split("\n")[node.lineno - 1]
                    self.assertRegex(text, r"(sorted|len)\(set\(|in set\(|= set\(", where)

    def test_loops_walk_what_they_do_not_change(self):
        for name, tree in trees():
            for function in ast.walk(tree):
                if isinstance(function, ast.FunctionDef):
                    self.assertEqual(changed_walks(function), [], (name, function.name))

    def test_changed_walks_are_seen(self):
        for text, lines in (("for x in a:\n        a.append(x)", [2]), ("for x in list(a):\n        a.append(x)", []),
                            ("while a:\n        b = []\n        for x in a:\n            b.append(x)\n        a = b", [4]),
                            ("while a:\n        b = []\n        for x in list(a):\n            b.append(x)\n        a = b", []),
                            ("c, d = a, 1\n    for k, x in enumerate(a):\n        c[k] = x", [3]),
                            ("for k, x in a.items():\n        b[k] = x", []), ("for k in a or b:\n        b.pop()", [2]),
                            ("return [a.pop() for k in a]", [1])):
            function = ast.parse("def f(a, b):\n    " + text).body[0]
            self.assertEqual(changed_walks(function), [line + 1 for line in lines], text)

    def test_classes(self):
        for name, tree in trees():
            for node in ast.walk(tree):
                if not isinstance(node, ast.ClassDef):
                    continue
                methods = [part.name for part in node.body if isinstance(part, ast.FunctionDef)]
                self.assertEqual(len(methods), len(set(methods)), (name, node.name))
                for method in methods:
                    self.assertTrue(not method.startswith("__") or method in DUNDERS, (name, node.name, method))
                attributes = set(part.attr for part in ast.walk(node) if isinstance(part, ast.Attribute)
                                 and isinstance(part.ctx, ast.Store))
                self.assertFalse(attributes & set(methods), (name, node.name))


if __name__ == "__main__":
    unittest.main()
