"""Whether the files of the package keep those rules of the subset that a short look can check."""

import ast
import builtins
import pathlib
import re

from helpers import KeptCase

PACKAGE = pathlib.Path(__file__).resolve().parent.parent / "keptbase"
BUILTINS = set("""len range enumerate zip min max sum abs sorted reversed int str bool bytes list tuple dict set frozenset
isinstance ord repr any all divmod iter next super property staticmethod classmethod Exception ValueError TypeError
KeyError IndexError LookupError ZeroDivisionError ArithmeticError OverflowError RuntimeError NotImplementedError
AttributeError NotImplemented map""".split())
METHODS = set("""append clear copy count endswith extend find get index insert isalnum isalpha isdigit islower isspace
isupper items join keys ljust lower lstrip partition pop remove replace reverse rfind rjust rpartition rsplit rstrip
setdefault split splitlines startswith strip update upper values zfill bit_length title capitalize swapcase casefold
center expandtabs removeprefix removesuffix rindex isascii isdecimal isnumeric istitle isidentifier isprintable""".split())
UNUSED = set("register mro elements open input law version_info with_traceback add_note".split())
WORDS = set("""type typing typing_extensions enum Enum IntEnum StrEnum Flag IntFlag Generic Protocol ABC ABCMeta namedtuple
NamedTuple TypedDict TYPE_CHECKING abstractmethod""".split())
DUNDERS = set("""init eq repr str len enter exit call iter lt le gt ge ne add sub mul floordiv mod pow and or xor lshift
rshift radd rsub rmul neg pos invert abs bool contains getitem setitem""".split())
STATEMENTS = (ast.Assign, ast.AugAssign, ast.If, ast.While, ast.For, ast.Return, ast.Break, ast.Continue, ast.Pass,
              ast.Raise, ast.Assert, ast.Delete, ast.Nonlocal, ast.With, ast.Try, ast.Expr, ast.FunctionDef, ast.ClassDef,
              ast.ImportFrom)
PURE = set("""__eq__ __str__ __repr__ __len__ __bool__ __contains__ __and__ __or__ __sub__ __invert__ __neg__ __add__
__mul__ __radd__ __rsub__ __rmul__ __iter__""".split())
CHANGING = set("append extend insert pop remove clear update setdefault reverse sort add discard".split())


def name_of(call):
    """The bare name of what a call calls."""
    return call.func.id if isinstance(call.func, ast.Name) else getattr(call.func, "attr", "")


def is_fresh(node):
    """Whether an expression makes a new list or dict, as the rule about operators lists them."""
    if isinstance(node, ast.Call):
        return isinstance(node.func, ast.Name) and node.func.id in ("list", "dict", "sorted")
    return isinstance(node, (ast.List, ast.Dict, ast.ListComp))


def choices_of(node):
    """The expressions whose value an expression may have as it stands: itself, or the members of a choice."""
    if isinstance(node, ast.IfExp):
        return [*choices_of(node.body), *choices_of(node.orelse)]
    if isinstance(node, ast.BoolOp):
        return [found for part in node.values for found in choices_of(part)]
    return [node]


def names_of_one_value(function):
    """For each name, attribute or item of a function, by its text, all those that may name the same list or dict."""
    groups = {}
    for node in ast.walk(function):
        if not isinstance(node, ast.Assign):
            continue
        for target in node.targets:
            both = isinstance(target, ast.Tuple) and isinstance(node.value, ast.Tuple)
            pairs = zip(target.elts, node.value.elts) if both else [(target, node.value)]
            for one, value in pairs:
                for other in choices_of(value):
                    if isinstance(one, (ast.Name, ast.Attribute, ast.Subscript)) and isinstance(other, (ast.Name, ast.Attribute)):
                        joined = groups.get(ast.unparse(one), {ast.unparse(one)}) | groups.get(ast.unparse(other), {ast.unparse(other)})
                        groups.update({name: joined for name in joined})
    return groups


def values_behind(node, shared):
    """The names, by their text, of what an expression may stand for."""
    texts = [ast.unparse(part) for part in choices_of(node)]
    return {name for text in texts for name in shared.get(text, {text})}


def walked_values(node, shared):
    """The names of the lists and dicts that a loop over an expression walks."""
    if isinstance(node, ast.Call) and name_of(node) in ("enumerate", "zip", "reversed"):
        return {name for part in node.args for name in walked_values(part, shared)}
    if isinstance(node, ast.Call) and isinstance(node.func, ast.Attribute) and name_of(node) in ("items", "keys", "values"):
        return values_behind(node.func.value, shared)
    return values_behind(node, shared)


def changed_values(node):
    """The expressions whose lists or dicts a statement or a call changes."""
    if isinstance(node, ast.Call) and isinstance(node.func, ast.Attribute) and name_of(node) in CHANGING:
        return [node.func.value]
    if isinstance(node, ast.AugAssign) and not isinstance(node.value, ast.Constant):
        return [node.target]
    if isinstance(node, ast.Subscript) and isinstance(node.ctx, (ast.Store, ast.Del)):
        return [node.value]
    return []


def is_plain(node, properties):
    """Whether an expression may stand behind a star: a name, an attribute off a name, a literal, or a list of such."""
    if isinstance(node, (ast.List, ast.Tuple)):
        return all(is_plain(part, properties) for part in node.elts)
    if isinstance(node, ast.Dict):
        return all(part is not None and is_plain(part, properties) for part in [*node.keys, *node.values])
    if isinstance(node, ast.Attribute):
        return isinstance(node.value, ast.Name) and node.attr not in properties
    return isinstance(node, (ast.Name, ast.Constant))


class Language(KeptCase):
    def setUp(self):
        self.texts = {path.stem: path.read_bytes().decode("ascii") for path in sorted(PACKAGE.glob("*.py"))}
        self.trees = {stem: ast.parse(text) for stem, text in self.texts.items()}

    def nodes(self, *kinds):
        """All nodes of some kinds, each with the place where it stands."""
        for stem, tree in self.trees.items():
            for node in ast.walk(tree):
                if isinstance(node, kinds):
                    yield f"{stem}:{getattr(node, 'lineno', 0)}", node

    def defined(self):
        """All functions and methods of the package by name; a class stands for its __init__."""
        found = {}
        for stem, tree in self.trees.items():
            for node in ast.walk(tree):
                if isinstance(node, ast.FunctionDef):
                    found.setdefault(node.name, []).append((f"{stem}:{node.lineno}", node))
                elif isinstance(node, ast.ClassDef):
                    for part in node.body:
                        if isinstance(part, ast.FunctionDef) and part.name == "__init__":
                            found.setdefault(node.name, []).append((f"{stem}:{part.lineno}", part))
        return found

    def properties(self):
        """The names of all properties of the package."""
        return {node.name for _, node in self.nodes(ast.FunctionDef)
                if any(mark.id == "property" for mark in node.decorator_list)}

    def error_classes(self):
        """The names of all error classes of the package: the classes that have a builtin class above them."""
        bases = {node.name: [base.id for base in node.bases] for _, node in self.nodes(ast.ClassDef)}
        found = set()
        for _ in bases:
            found |= {name for name, above in bases.items() if any(hasattr(builtins, base) or base in found for base in above)}
        return found

    def has_keys(self):
        """Whether a class of the package has a method or an attribute called keys."""
        methods = [part.name for _, node in self.nodes(ast.ClassDef) for part in node.body if isinstance(part, ast.FunctionDef)]
        stored = [node.attr for _, node in self.nodes(ast.Attribute) if isinstance(node.ctx, ast.Store)]
        return "keys" in methods or "keys" in stored

    def test_files(self):
        names = [path.name for path in PACKAGE.iterdir() if path.name != "__pycache__"]
        self.assertTrue(all(re.fullmatch(r"[a-z_0-9]+\.py", name) for name in names), names)
        for stem, text in self.texts.items():
            lines = text.splitlines()
            self.assertLess(len(lines), 400, stem)
            self.assertTrue(all(len(line) <= 120 for line in lines), stem)
            self.assertTrue(all(sign == "\n" or " " <= sign <= "~" for sign in text), stem)
            self.assertNotRegex(text, "_wall|_WallAttr|dataclass|overload|contextmanager", stem)

    def test_module_level(self):
        for stem, tree in self.trees.items():
            bound = []
            for at, node in enumerate(tree.body):
                if isinstance(node, ast.ImportFrom):
                    bound.extend([alias.name for alias in node.names])
                elif isinstance(node, ast.Assign):
                    self.assertIsInstance(node.targets[0], ast.Name)
                    ast.literal_eval(node.value)
                    bound.append(node.targets[0].id)
                elif isinstance(node, (ast.FunctionDef, ast.ClassDef)):
                    bound.append(node.name)
                else:
                    self.assertTrue(at == 0 and ast.get_docstring(tree) is not None, stem)
            self.assertEqual(len(bound), len(set(bound)), stem)

    def test_imports_name_the_defining_file_and_make_no_ring(self):
        needs = {}
        for stem, tree in self.trees.items():
            needs[stem] = set()
            for node in ast.walk(tree):
                self.assertNotIsInstance(node, ast.Import)
                if isinstance(node, ast.ImportFrom):
                    self.assertIn(node, tree.body)
                    package, target = node.module.split(".")
                    self.assertEqual((package, node.level), ("keptbase", 0))
                    made = [part.name for part in self.trees[target].body if hasattr(part, "name")]
                    made += [part.targets[0].id for part in self.trees[target].body if isinstance(part, ast.Assign)]
                    for alias in node.names:
                        self.assertIsNone(alias.asname)
                        self.assertIn(alias.name, made)
                        used = [part for part in ast.walk(tree) if isinstance(part, ast.Name) and part.id == alias.name]
                        self.assertTrue(used, f"{stem} does not use {alias.name}")
                    needs[stem].add(target)
        while needs:
            free = [stem for stem, wanted in needs.items() if not wanted & set(needs)]
            self.assertTrue(free, f"a ring of imports among {sorted(needs)}")
            needs = {stem: wanted for stem, wanted in needs.items() if stem not in free}

    def test_statements_and_expressions(self):
        banned = (ast.GeneratorExp, ast.Await, ast.Set, ast.NamedExpr, ast.Div)
        for where, node in self.nodes(ast.stmt):
            self.assertIsInstance(node, STATEMENTS, where)
        for where, node in self.nodes(*banned):
            self.fail(f"{where}: {node}")
        for where, node in self.nodes(ast.Constant):
            self.assertNotIsInstance(node.value, (float, complex), where)
            self.assertTrue(not isinstance(node.value, str) or "%" not in node.value, where)
        for where, node in self.nodes(ast.Compare):
            for operator, right in zip(node.ops, node.comparators):
                if isinstance(operator, (ast.Is, ast.IsNot)):
                    self.assertTrue(isinstance(right, ast.Constant) and right.value in (None, True, False), where)

    def test_functions(self):
        allowed = ("property", "staticmethod", "classmethod")
        for where, node in self.nodes(ast.FunctionDef):
            self.assertLessEqual(node.end_lineno - node.lineno + 1, 40, where)
            self.assertTrue(all(mark.id in allowed for mark in node.decorator_list), where)
            if node.name.startswith("__"):
                self.assertIn(node.name.strip("_"), DUNDERS, where)
            for default in [*node.args.defaults, *[part for part in node.args.kw_defaults if part is not None]]:
                ast.literal_eval(default)
        for where, node in self.nodes(ast.ClassDef):
            self.assertEqual(node.decorator_list, [], where)
            names = [part.name for part in node.body if isinstance(part, ast.FunctionDef)]
            self.assertEqual(len(names), len(set(names)), where)
            if "__getitem__" in names:
                self.assertIn("__iter__", names, where)

    def test_generators_are_iterated_at_once(self):
        yields = {node.name for _, node in self.nodes(ast.FunctionDef)
                  if any(isinstance(part, (ast.Yield, ast.YieldFrom)) for part in ast.walk(node))}
        self.assertFalse(any(name.startswith("__") for name in yields))
        self.assertEqual(len(yields), len([node for _, node in self.nodes(ast.FunctionDef) if node.name in yields]))
        used = [node for _, node in self.nodes(ast.Name) if node.id in yields]
        fine = []
        for _, node in self.nodes(ast.For, ast.comprehension, ast.YieldFrom, ast.Call):
            if isinstance(node, ast.Call):
                fine += node.args if name_of(node) in ("list", "tuple", "sorted", "any", "all", "sum") else []
            else:
                fine.append(node.value if isinstance(node, ast.YieldFrom) else node.iter)
        fine = {id(node.func) for node in fine if isinstance(node, ast.Call)}
        self.assertTrue(all(id(node) in fine for node in used))
        for where, node in self.nodes(ast.Yield, ast.YieldFrom):
            self.assertIn(id(node), {id(part.value) for _, part in self.nodes(ast.Expr)}, where)

    def test_names(self):
        for stem, tree in self.trees.items():
            taken = {part.name for part in ast.walk(tree) if isinstance(part, ast.ClassDef)}
            taken |= {alias.name for part in tree.body if isinstance(part, ast.ImportFrom) for alias in part.names}
            for node in ast.walk(tree):
                if isinstance(node, ast.Name) and isinstance(node.ctx, ast.Store):
                    names = [node.id]
                elif isinstance(node, ast.arg):
                    names = [node.arg]
                else:
                    names = [node.name] if isinstance(node, (ast.FunctionDef, ast.ClassDef)) else []
                for name in names:
                    self.assertRegex(name, r"^(_|_?[A-Za-z][A-Za-z0-9_]*|__[a-z]+__)$", stem)
                    self.assertNotIn(name, UNUSED, stem)
                    if not isinstance(node, (ast.FunctionDef, ast.ClassDef)):
                        self.assertNotIn(name, taken, stem)
                    self.assertTrue(name.startswith("__") or not hasattr(builtins, name), f"{stem}: {name}")
            attributes = [node.attr for node in ast.walk(tree) if isinstance(node, ast.Attribute)]
            self.assertFalse(UNUSED & set(attributes), stem)
            code = [node.id for node in ast.walk(tree) if isinstance(node, ast.Name)] + attributes
            self.assertFalse(WORDS & set(code), stem)

    def test_only_known_builtins_and_methods_are_called(self):
        known = set(self.defined())
        for where, node in self.nodes(ast.Name):
            if hasattr(builtins, node.id):
                self.assertIn(node.id, BUILTINS, where)
        for where, node in self.nodes(ast.Call):
            if isinstance(node.func, ast.Attribute):
                self.assertTrue(node.func.attr in METHODS or node.func.attr in known or node.func.attr == "__init__", where)

    def test_no_name_is_a_method_and_an_attribute_of_one_class(self):
        for where, node in self.nodes(ast.ClassDef):
            methods = {part.name for part in node.body if isinstance(part, ast.FunctionDef)}
            stored = {part.attr for part in ast.walk(node) if isinstance(part, ast.Attribute)
                      and isinstance(part.ctx, ast.Store)}
            self.assertFalse(methods & stored, where)

    def test_names_of_static_methods_and_properties_mean_nothing_else(self):
        marked, plain = set(), set()
        for _, node in self.nodes(ast.ClassDef):
            for part in node.body:
                if isinstance(part, ast.FunctionDef):
                    (marked if part.decorator_list else plain).add(part.name)
        stored = {node.attr for _, node in self.nodes(ast.Attribute) if isinstance(node.ctx, ast.Store)}
        self.assertFalse(marked & (plain | stored))

    def test_sets_stand_only_in_sorted_and_len(self):
        fine = set()
        for _, node in self.nodes(ast.Call):
            if name_of(node) in ("sorted", "len"):
                fine |= {id(argument) for argument in node.args}
        for where, node in self.nodes(ast.Call, ast.SetComp):
            if isinstance(node, ast.SetComp) or name_of(node) in ("set", "frozenset"):
                self.assertIn(id(node), fine, where)

    def test_stars_in_calls(self):
        own, errors, properties = set(self.defined()), self.error_classes(), self.properties()
        for where, node in self.nodes(ast.Call):
            stars = [part for part in node.args if isinstance(part, ast.Starred)]
            doubles = [part.value for part in node.keywords if part.arg is None]
            if not stars and not doubles:
                continue
            if isinstance(node.func, ast.Name):
                free = name_of(node) in ("max", "min", "zip") or not hasattr(builtins, name_of(node))
                self.assertTrue(free and name_of(node) not in errors, where)
            else:
                self.assertIn(name_of(node), own, where)
            plain = [part.value for part in stars]
            if doubles:
                self.assertEqual(len(node.keywords), 1, where)
                self.assertIsInstance(doubles[0], (ast.Name, ast.Attribute), where)
                self.assertFalse(self.has_keys(), where)
                plain += [*[part for part in node.args if part not in stars], *doubles]
            self.assertTrue(all(is_plain(part, properties) for part in plain), where)
            for word in node.keywords:
                self.assertFalse([part for part in stars if (part.lineno, part.col_offset)
                                  > (word.value.lineno, word.value.col_offset)], where)

    def test_stars_in_literals(self):
        for where, node in self.nodes(ast.Subscript):
            items = node.slice.elts if isinstance(node.slice, ast.Tuple) else []
            self.assertFalse([part for part in items if isinstance(part, ast.Starred)], where)
        for where, node in self.nodes(ast.Dict):
            self.assertFalse(None in node.keys and self.has_keys(), where)

    def test_a_wrong_star_is_found(self):
        head = ("class Wrong(ValueError):\n def __init__(self, *xs): self.held = xs\n"
                "class Worse(Wrong):\n pass\n"
                "class Box:\n def told(self): return 1\n @property\n def many(self): return 1\n"
                "def sized(*xs, k=1): return 1\n")
        rows = ["sized(*xs.told())", "sized(*xs.held.told())", "sized(*told())", "sized(*xs.held.held)", "sized(*xs.many)",
                "sized(*xs[0])", "sized(*xs[1:])", "sized(*xs + ys)", "sized(*(xs or ys))", "sized(*[k for k in xs])",
                "sized(*[len(xs)])", "sized(*(1, xs[0]))", "sized(*{1: ys.told()})", "sized(*[*xs])", "sized(*{**xs})",
                "sized(*xs, *ys.told())", "xs - sized(*ys.told())", "sized(k=1, *xs)", "sized(len(xs), **ys)",
                "sized(**xs.held.held)", "sized(**xs.many)", "sized(**xs.told())", "sized(**{1: 2})", "sized(k=1, **xs)",
                "sized(**xs, **ys)", "self.keys = 1\n sized(**xs)", "Wrong(*xs)", "Worse(*xs)", "ValueError(*xs)",
                "sum(*xs)", "xs.append(*ys)", "xs[0](*ys)", "xs[*ys, 1]", "self.keys = 1\n xs = {**ys}"]
        fine = ["sized(*xs)", "sized(1, *xs)", "sized(len(xs), *ys)", "sized(*xs.held)", "sized(*xs, 2, k=3)", "sized(*'ab')",
                "sized(*[xs, xs.held, 1, (ys,), {1: xs}])", "sized(1, xs.held, **ys)", "sized(**xs.held)", "max(*xs)",
                "min(*xs, key=len)", "told = xs.told()\n sized(*told)", "zs(*xs)", "Box(*xs)", "xs.told(*ys)",
                "xs = [*ys.told(), 1]", "xs = {**ys.told(), 1: 2}", "super().__init__(*xs, **ys)"]
        for at, row in enumerate([*rows, *fine]):
            self.trees = {"tried": ast.parse(head + "def tried(self, xs, ys, zs):\n " + row + "\n return 1")}
            with self.subTest(row):
                if at >= len(rows):
                    self.test_stars_in_calls()
                    self.test_stars_in_literals()
                else:
                    self.assertRaises(AssertionError, lambda: (self.test_stars_in_calls(), self.test_stars_in_literals()))

    def test_what_is_iterated_is_not_changed(self):
        for where, function in self.nodes(ast.FunctionDef):
            shared = names_of_one_value(function)
            for node in [part for part in ast.walk(function) if isinstance(part, ast.For)]:
                walked = walked_values(node.iter, shared)
                for part in ast.walk(ast.Module(node.body, [])):
                    for changed in changed_values(part):
                        self.assertFalse(walked & values_behind(changed, shared), f"{where}: line {part.lineno}")

    def test_a_change_behind_another_name_is_found(self):
        rows = ["for k in xs: xs.append(k)", "ys = xs\n for k in ys: xs.append(k)", "for k in xs: xs[k] = 1",
                "while xs:\n  ys = []\n  for k in xs: ys.append(k)\n  xs = ys", "for k, v in xs.items(): del xs[k]",
                "for k in self.xs: self.xs.pop()", "ys = xs if xs else zs\n for k in enumerate(ys): zs.pop()",
                "for k, v in xs.items():\n  ys[k] = v\n xs = ys", "ys, zs = zs, []\n for k in ys: zs.append(k)",
                "for k in (xs or ys): ys.pop()", "for k in zip(xs, ys): ys += [k]"]
        fine = ["for k in list(xs): xs.append(k)", "for k in xs: ys.append(k)", "ys = list(xs)\n for k in ys: xs.append(k)",
                "while xs:\n  ys = []\n  for k in list(xs): ys.append(k)\n  xs = ys", "for k in self.xs: self.ys.pop()",
                "many = 0\n for k in xs: many += 1\n xs = many"]
        for at, row in enumerate([*rows, *fine]):
            self.trees = {"tried": ast.parse("def tried(self, xs, ys, zs):\n " + row + "\n return 1")}
            if at >= len(rows):
                self.test_what_is_iterated_is_not_changed()
            else:
                self.assertRaises(AssertionError, self.test_what_is_iterated_is_not_changed)

    def test_what_operators_call_changes_nothing(self):
        defined = self.defined()
        names = [name for name in defined if name in PURE]
        names += sorted(self.properties())
        reached = set()
        while names:
            name = names.pop()
            if name in reached or name not in defined:
                continue
            reached.add(name)
            for where, node in defined[name]:
                self.check_pure(where, node)
                names.extend([name_of(part) for part in ast.walk(node) if isinstance(part, ast.Call)])
                # An operator may stand behind any sign, and a property behind any attribute; all of them are checked.
        self.assertIn("united", reached)
        self.assertIn("images_by_place", reached)

    def check_pure(self, where, function):
        """Check that a function changes nothing but what it has made itself."""
        own = {}
        for node in ast.walk(function):
            if isinstance(node, ast.Assign):
                for target in node.targets:
                    if isinstance(target, ast.Name):
                        own[target.id] = own.get(target.id, True) and is_fresh(node.value)
        for node in ast.walk(function):
            if isinstance(node, ast.Attribute) and isinstance(node.ctx, (ast.Store, ast.Del)):
                self.assertTrue(function.name == "__init__" and node.value.id == "self", where)
            if isinstance(node, ast.Subscript) and isinstance(node.ctx, (ast.Store, ast.Del)):
                self.assertTrue(isinstance(node.value, ast.Name) and own.get(node.value.id), where)
            if isinstance(node, ast.AugAssign):
                self.assertTrue(isinstance(node.target, ast.Name) and isinstance(node.value, ast.Constant), where)
            if isinstance(node, ast.Call) and isinstance(node.func, ast.Attribute) and node.func.attr in CHANGING:
                self.assertTrue(isinstance(node.func.value, ast.Name) and own.get(node.func.value.id), where)
