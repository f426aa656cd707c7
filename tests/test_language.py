"""The files of the package keep to the subset of Python that they are written in, as far as a test can see it."""

import ast
import builtins
import os
import re
import unittest

TOP = os.path.dirname(os.path.dirname(os.path.abspath(__file__)))
FOLDER = os.path.join(TOP, "oncestream")
INTERFACE = os.path.join(TOP, "tests", "interface.txt")

BUILTINS = set("""len range enumerate zip min max sum abs sorted reversed int str bool list tuple dict set frozenset
    isinstance ord repr any all divmod Exception ValueError TypeError KeyError IndexError LookupError ZeroDivisionError
    ArithmeticError OverflowError RuntimeError NotImplementedError super""".split())
METHODS = set("""append clear copy count endswith extend find get index insert isalnum isalpha isdigit islower isspace
    isupper items join keys ljust lower lstrip partition pop remove replace reverse rfind rjust rpartition rsplit rstrip
    setdefault split splitlines startswith strip update upper values zfill bit_length isascii isprintable add discard
    __init__""".split())
LIBRARY = {"math": {"gcd", "lcm", "isqrt", "comb", "perm", "factorial"}}
BARRED = set("""register mro elements open input law version_info with_traceback add_note attrgetter breakpoint builtins
    compile copyright credits delattr dir eval exec exit gc globals help id importlib license locals methodcaller os quit
    type vars sys typing enum Generic Protocol ABC namedtuple dataclass""".split())
BEGINNINGS = (r"_wall|_pe_|_dcw_|_enum_|_cm_|_twin_re_|_lay_|_law_|_stub_|_sre|_WallAttr|"
              r"_(cold|tuplegetter|outside|record|written_out|member_names)[0-9_]*")
STATEMENTS = (ast.Assign, ast.AugAssign, ast.AnnAssign, ast.If, ast.While, ast.For, ast.Return, ast.Break, ast.Continue,
              ast.Pass, ast.Raise, ast.Expr, ast.Try, ast.FunctionDef, ast.ClassDef, ast.ImportFrom, ast.Delete, ast.Assert,
              ast.Nonlocal, ast.Match, ast.With)


def files():
    """The pairs (name, text) of all files of the package."""
    found = []
    for name in sorted(os.listdir(FOLDER)):
        if name != "__pycache__":
            with open(os.path.join(FOLDER, name), encoding="utf-8", newline="") as lines:
                found.append((name, lines.read()))
    return found


FILES = [(name, text, ast.parse(text)) for name, text in files()]


def bound_names(tree):
    """All names that are given a meaning in a file, imports apart."""
    found = []
    for node in ast.walk(tree):
        if isinstance(node, (ast.FunctionDef, ast.ClassDef)):
            found.append(node.name)
        elif isinstance(node, ast.arg):
            found.append(node.arg)
        elif isinstance(node, ast.Name) and not isinstance(node.ctx, ast.Load):
            found.append(node.id)
    return found


def defined(tree):
    """What a file defines at module level: the dict from the names to the nodes."""
    found = {}
    for node in tree.body:
        if isinstance(node, (ast.FunctionDef, ast.ClassDef)):
            found[node.name] = node
        elif isinstance(node, ast.Assign):
            found[node.targets[0].id] = node
    return found


def imports(tree):
    return [node for node in ast.walk(tree) if isinstance(node, (ast.Import, ast.ImportFrom))]


class Language(unittest.TestCase):
    def nodes(self, kinds):
        for name, _, tree in FILES:
            for node in ast.walk(tree):
                if isinstance(node, kinds):
                    yield f"{name}:{getattr(node, 'lineno', 0)}", node

    def test_files_and_characters(self):
        self.assertIn("__init__.py", [name for name, _, _ in FILES])
        for name, text, _ in FILES:
            self.assertRegex(name, r"^[a-z0-9_]+\.py$")
            self.assertEqual([sign for sign in set(text) if not (sign == "\n" or " " <= sign <= "~")], [], name)

    def test_sizes(self):
        for name, text, _ in FILES:
            self.assertLessEqual(len(text.splitlines()), 399, name)
            for number, line in enumerate(text.splitlines(), 1):
                self.assertLessEqual(len(line), 120, f"{name}:{number}")
        for where, node in self.nodes(ast.FunctionDef):
            self.assertLessEqual(node.end_lineno - node.lineno + 1, 40, where)

    def test_imports(self):
        table = {name: defined(tree) for name, _, tree in FILES}
        for name, _, tree in FILES:
            for node in imports(tree):
                self.assertIsInstance(node, ast.ImportFrom, name)
                self.assertIn(node, tree.body)
                self.assertEqual(node.level, 0)
                if node.module in LIBRARY:
                    self.assertLessEqual({alias.name for alias in node.names}, LIBRARY[node.module], name)
                    self.assertEqual([alias.asname for alias in node.names], [None] * len(node.names), name)
                    continue
                package, file = node.module.split(".")
                self.assertEqual(package, "oncestream")
                for alias in node.names:
                    self.assertIsNone(alias.asname)
                    self.assertIn(alias.name, table[file + ".py"], f"{name}: {alias.name}")
            kinds = [isinstance(node, ast.ImportFrom) for node in tree.body if not isinstance(node, ast.Expr)]
            self.assertEqual(kinds, sorted(kinds, reverse=True), f"{name}: imports stand at the top")

    def test_no_circles_of_imports(self):
        ahead = {name[:-3]: [node.module.split(".")[1] for node in imports(tree) if node.module not in LIBRARY]
                 for name, _, tree in FILES}
        done = []
        while len(done) < len(ahead):
            free = [name for name in ahead if name not in done and all(other in done for other in ahead[name])]
            self.assertTrue(free, sorted(set(ahead) - set(done)))
            done += free

    def test_module_level(self):
        for name, _, tree in FILES:
            for at, node in enumerate(tree.body):
                if isinstance(node, ast.Expr):
                    self.assertTrue(at == 0 and isinstance(node.value, ast.Constant), name)
                    continue
                self.assertIsInstance(node, (ast.ImportFrom, ast.FunctionDef, ast.ClassDef, ast.Assign), name)
                if isinstance(node, ast.Assign):
                    self.assertEqual([type(target) for target in node.targets], [ast.Name], name)
                    for inner in ast.walk(node.value):
                        self.assertIsInstance(inner, (ast.Constant, ast.Tuple, ast.List, ast.Dict, ast.Name, ast.Load), name)
            names = [node.targets[0].id if isinstance(node, ast.Assign) else node.name for node in tree.body
                     if isinstance(node, (ast.Assign, ast.FunctionDef, ast.ClassDef))]
            names += [alias.name for node in imports(tree) for alias in node.names]
            self.assertEqual(len(names), len(set(names)), name)

    def test_statements(self):
        for where, node in self.nodes(ast.stmt):
            self.assertIsInstance(node, STATEMENTS, where)
        for where, node in self.nodes((ast.FunctionDef, ast.ClassDef)):
            self.assertEqual(node.decorator_list, [], where)

    def test_values(self):
        for where, node in self.nodes((ast.Div, ast.Set, ast.Await, ast.FloorDiv)):
            self.assertIsInstance(node, ast.FloorDiv, where)
        for where, node in self.nodes(ast.Constant):
            self.assertIsInstance(node.value, (int, str, type(None)), where)
            if isinstance(node.value, str):
                self.assertNotIn("%", node.value, where)
                self.assertEqual(re.findall(r"\b__|__\b", node.value), [], where)
        for where, node in self.nodes(ast.Compare):
            for sign, other in zip(node.ops, node.comparators):
                if isinstance(sign, (ast.Is, ast.IsNot)):
                    self.assertTrue(isinstance(other, ast.Constant) and other.value in (None, True, False), where)

    def test_builtins_and_methods(self):
        own = {found for _, _, tree in FILES for found in bound_names(tree)}
        for where, node in self.nodes(ast.Name):
            if node.id in vars(builtins) and isinstance(node.ctx, ast.Load):
                self.assertIn(node.id, BUILTINS, where)
        for where, node in self.nodes(ast.Call):
            if isinstance(node.func, ast.Attribute):
                self.assertIn(node.func.attr, METHODS | own, where)
            if isinstance(node.func, ast.Name) and node.func.id in vars(builtins):
                for keyword in node.keywords:
                    self.assertIn((node.func.id, keyword.arg), {("sorted", "key"), ("sorted", "reverse"), ("min", "key"),
                                                                ("max", "key"), ("min", "default"), ("max", "default")}, where)

    def test_names(self):
        for name, _, tree in FILES:
            imported = {alias.name for node in imports(tree) for alias in node.names}
            classes = {node.name for node in tree.body if isinstance(node, ast.ClassDef)}
            for found in bound_names(tree):
                self.assertTrue(re.fullmatch(r"_?[A-Za-z][A-Za-z0-9_]*|_|__init__", found), f"{name}: {found}")
                self.assertNotIn(found, vars(builtins), name)
                self.assertNotIn(found, BARRED, name)
                self.assertIsNone(re.match(BEGINNINGS, found), f"{name}: {found}")
                self.assertNotIn(found, imported, name)
            locals_of = [found for node in ast.walk(tree) if isinstance(node, ast.FunctionDef)
                         for inner in node.body for found in bound_names(inner)]
            self.assertEqual(set(locals_of) & classes, set(), name)

    def test_sets_and_generators(self):
        """A set(..) is sorted, counted or given a name; a generator expression stands in what goes over it at once."""
        for name, _, tree in FILES:
            above = {inner: node for node in ast.walk(tree) for inner in ast.iter_child_nodes(node)}
            for node in ast.walk(tree):
                if isinstance(node, ast.Call) and isinstance(node.func, ast.Name):
                    outer = above[node]
                    caller = outer.func.id if isinstance(outer, ast.Call) and isinstance(outer.func, ast.Name) else None
                    if node.func.id == "set":
                        self.assertTrue(caller in ("sorted", "len") or isinstance(outer, ast.Assign), f"{name}:{node.lineno}")
                    if node.func.id in ("zip", "enumerate", "reversed", "range"):
                        is_gone_over = isinstance(outer, (ast.For, ast.comprehension)) or caller in ("list", "tuple", "zip")
                        self.assertTrue(is_gone_over, f"{name}:{node.lineno}")
                if isinstance(node, ast.GeneratorExp):
                    self.assertIn(above[node].func.id, ("list", "tuple", "dict", "sorted", "sum", "min", "max", "any", "all"))

    def test_lambdas(self):
        """L13: no two lambdas with parameters of the same names on one line; L4: defaults are plain."""
        for name, _, tree in FILES:
            seen = set()
            for node in ast.walk(tree):
                if isinstance(node, ast.Lambda):
                    told = (node.lineno, tuple(argument.arg for argument in node.args.args))
                    self.assertNotIn(told, seen, name)
                    seen.add(told)
                if isinstance(node, ast.arguments):
                    self.assertEqual((node.defaults, node.kw_defaults, node.vararg, node.kwarg), ([], [], None, None), name)

    def test_errors(self):
        """L19: own errors are caught by name; an error is created where it is raised, from None in a handler."""
        own = {name for name, node in defined(dict((name, tree) for name, _, tree in FILES)["errors.py"]).items() if isinstance(node, ast.ClassDef)}
        for where, node in self.nodes(ast.ExceptHandler):
            for caught in node.type.elts if isinstance(node.type, ast.Tuple) else [node.type]:
                self.assertIsInstance(caught, ast.Name, where)
                self.assertIn(caught.id, own | {"KeyError", "ZeroDivisionError"}, where)
            for inner in ast.walk(node):
                if isinstance(inner, ast.Raise) and inner.cause is not None:
                    self.assertTrue(isinstance(inner.cause, ast.Constant) and inner.cause.value is None, where)
        for where, node in self.nodes(ast.Raise):
            self.assertTrue(isinstance(node.exc, ast.Call) and node.exc.func.id in own, where)

    def test_numbers_and_strings(self):
        """L27: exponents are literals, no escapes but these; L7: no f-string in an f-string."""
        for where, node in self.nodes(ast.BinOp):
            if isinstance(node.op, ast.Pow):
                self.assertTrue(isinstance(node.right, ast.Constant) and 0 <= node.right.value <= 64, where)
        for where, node in self.nodes(ast.JoinedStr):
            self.assertFalse([inner for inner in ast.walk(node) if isinstance(inner, ast.JoinedStr) and inner is not node], where)
        for name, text, _ in FILES:
            self.assertEqual([escape for escape in re.findall(r"\\.", text) if escape[1] not in "nt\\'\""], [], name)

    def test_tables_at_module_level_are_only_read(self):
        """L15: a list or dict there is indexed, gone over, looked up in, copied; it is not passed on or changed."""
        for name, _, tree in FILES:
            tables = {other: node for other, node in defined(tree).items() if isinstance(node, ast.Assign) and isinstance(node.value, (ast.Dict, ast.List))}
            for table, node in tables.items():
                members = node.value.values + node.value.keys if isinstance(node.value, ast.Dict) else node.value.elts
                self.assertFalse([inner for member in members for inner in ast.walk(member) if isinstance(inner, (ast.Dict, ast.List))], name)
            above = {inner: node for node in ast.walk(tree) for inner in ast.iter_child_nodes(node)}
            for node in ast.walk(tree):
                if isinstance(node, ast.Name) and node.id in tables and isinstance(node.ctx, ast.Load):
                    outer = above[node]
                    is_read = isinstance(outer, (ast.For, ast.comprehension, ast.Compare)) or isinstance(outer, ast.Subscript) and isinstance(outer.ctx, ast.Load)
                    is_copied = isinstance(outer, ast.Call) and outer.func.id in ("list", "dict", "len", "sorted")
                    self.assertTrue(is_read or is_copied or isinstance(outer, ast.Attribute) and outer.attr == "get", f"{name}:{node.lineno}")

    def test_what_a_loop_goes_over_stays(self):
        """L23: nothing is changed by its name in the loop that goes over it."""
        changing = {"append", "clear", "extend", "insert", "pop", "remove", "reverse", "setdefault", "update", "add", "discard"}
        for where, node in self.nodes(ast.For):
            over = {inner.id for inner in ast.walk(node.iter) if isinstance(inner, ast.Name)}
            for inner in [inner for row in node.body for inner in ast.walk(row)]:
                if isinstance(inner, ast.Call) and isinstance(inner.func, ast.Attribute) and inner.func.attr in changing:
                    self.assertFalse(isinstance(inner.func.value, ast.Name) and inner.func.value.id in over, where)
                if isinstance(inner, ast.Subscript) and not isinstance(inner.ctx, ast.Load):
                    self.assertFalse(isinstance(inner.value, ast.Name) and inner.value.id in over, where)

    def test_what_is_imported_is_used(self):
        for name, _, tree in FILES:
            used = {node.id for node in ast.walk(tree) if isinstance(node, ast.Name)}
            private = {found for found in defined(tree) if found.startswith("_")}
            self.assertEqual(({alias.name for node in imports(tree) for alias in node.names} | private) - used, set(), name)

    def test_words_that_are_not_used(self):
        for name, _, tree in FILES:
            for node in ast.walk(tree):
                if isinstance(node, ast.Constant) and isinstance(node.value, str):
                    self.assertEqual(set(re.findall(r"\w+", node.value)) & {"type", "typing", "enum"}, set(), name)


class Interface(unittest.TestCase):
    def told(self):
        """The pairs (file, line) of what the interface lists for each file."""
        with open(INTERFACE, encoding="utf-8") as lines:
            lines = [line.strip() for line in lines]
        return [(line[len("### oncestream/"):], lines[at + 1]) for at, line in enumerate(lines)
                if line.startswith("### oncestream/") and not line.endswith("errors.py")]

    def check(self, names, told, first):
        """That the names hold a function with these arguments behind the first ones."""
        name, _, arguments = told.rstrip(").").partition("(")
        if name.startswith("Bad") or name in ("END", "GROUPS", "Blocked", "NothingDone"):
            return 0
        self.assertIsInstance(names[name], ast.FunctionDef, told)
        found = [argument.arg for argument in names[name].args.args]
        awaited = first + (arguments.split(", ") if arguments else [])
        self.assertEqual(len(found), len(awaited), told)
        for one, other in zip(found, awaited):
            # The subset bars this one name; arguments are passed by position.
            self.assertTrue(one == other or other == "input", told)
        return 1

    def test_each_function_is_defined_where_the_interface_lists_it(self):
        table, done = {name: defined(tree) for name, _, tree in FILES}, 0
        for file, line in self.told():
            if not line.startswith("class "):
                done += sum(self.check(table[file], told, []) for told in re.split(r"[;.] ", line))
        self.assertEqual(done, 229)

    def test_each_method_is_defined_in_its_class(self):
        table, done = {name: defined(tree) for name, _, tree in FILES}, 0
        for file, line in self.told():
            if line.startswith("class "):
                begun, methods = line[len("class "):].split(": ")
                name, _, arguments = begun.rstrip(")").partition("(")
                self.assertIsInstance(table[file][name], ast.ClassDef)
                names = {node.name: node for node in table[file][name].body if isinstance(node, ast.FunctionDef)}
                done += self.check(names, f"__init__({arguments})", ["self"])
                done += sum(self.check(names, told, ["self"]) for told in re.split(r"[;.] ", methods))
        self.assertEqual(done, 17)


if __name__ == "__main__":
    unittest.main()
