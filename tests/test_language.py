"""The rules of LANGUAGE.md that a short look at the files of the package can check. It does not check all of them, and
where the package does without something that the rules allow, it asks for no more than that."""

import ast
import builtins
import io
import os
import tokenize
import unittest

FOLDER = os.path.join(os.path.dirname(os.path.dirname(os.path.abspath(__file__))), "foretask")
# L8
BUILTINS = (
    "len range enumerate zip min max sum abs sorted reversed int str bool list tuple dict set isinstance ord repr any all"
    " divmod iter next map super property staticmethod classmethod"
    " Exception ValueError TypeError KeyError IndexError LookupError ZeroDivisionError ArithmeticError OverflowError"
    " RuntimeError NotImplementedError AttributeError StopIteration NotImplemented"
).split()
# L25
METHODS = (
    "append clear copy count endswith extend find get index insert isalnum isalpha isdigit islower isspace isupper items"
    " join keys ljust lower lstrip partition pop remove replace reverse rfind rjust rpartition rsplit rstrip setdefault"
    " split splitlines startswith strip update upper values zfill bit_length"
).split()
# L26
BARRED_ATTRIBUTES = (
    "items keys values pop update append clear extend insert remove reverse setdefault sort args encode decode hex fromhex"
    " format real imag numerator denominator"
).split()
# L17
BARRED_NAMES = (
    "register mro elements open input law version_info with_traceback add_note attrgetter breakpoint builtins compile"
    " copyright credits delattr dir eval exec exit gc globals help id importlib license locals methodcaller os quit setattr"
    " type vars sys"
).split()
BARRED_WORDS = (
    "typing typing_extensions enum Enum IntEnum StrEnum Flag IntFlag Generic Protocol ABC ABCMeta namedtuple NamedTuple"
    " TypedDict TYPE_CHECKING abstractmethod _wall _WallAttr"
).split()
# L5
DOUBLE = ("__init__", "__eq__", "__repr__", "__str__", "__len__", "__enter__", "__exit__", "__call__", "__iter__")
STATEMENTS = (
    ast.Assign, ast.AugAssign, ast.AnnAssign, ast.If, ast.While, ast.For, ast.Return, ast.Break, ast.Continue, ast.Pass,
    ast.Raise, ast.Assert, ast.Delete, ast.Nonlocal, ast.Match, ast.With, ast.Try, ast.Expr, ast.FunctionDef, ast.ClassDef,
    ast.ImportFrom,
)


class TestLanguage(unittest.TestCase):
    def setUp(self):
        self.texts = {}
        for name in sorted(os.listdir(FOLDER)):
            if name != "__pycache__":
                with open(os.path.join(FOLDER, name), encoding="utf-8", newline="") as file:
                    self.texts[name] = file.read()
        self.trees = {name: ast.parse(text) for name, text in self.texts.items()}

    def nodes(self, *kinds):
        for name, tree in self.trees.items():
            for node in ast.walk(tree):
                if isinstance(node, kinds):
                    yield name + ":" + str(getattr(node, "lineno", 0)), node

    def test_files(self):
        self.assertIn("__init__.py", self.texts)
        self.assertLessEqual(len(self.texts), 100)
        for name, text in self.texts.items():
            self.assertTrue(name.endswith(".py") and name == name.lower(), name)
            lines = text.split("\n")
            self.assertLess(len(lines), 400, name)
            for number, line in enumerate(lines, 1):
                self.assertLessEqual(len(line), 120, (name, number))
                self.assertTrue(all(" " <= character <= "~" for character in line), (name, number))

    def test_functions(self):
        for place, node in self.nodes(ast.FunctionDef):
            self.assertLessEqual(node.end_lineno - node.lineno + 1, 40, place)
            self.assertEqual(node.decorator_list, [], place)

    def test_module_level(self):
        for name, tree in self.trees.items():
            bound = []
            for at, node in enumerate(tree.body):
                self.assertIsInstance(node, (ast.Expr, ast.ImportFrom, ast.FunctionDef, ast.ClassDef, ast.Assign), name)
                if isinstance(node, ast.Expr):
                    self.assertTrue(at == 0 and isinstance(node.value, ast.Constant), name)
                if isinstance(node, ast.ImportFrom):
                    bound += [alias.name for alias in node.names]
                elif isinstance(node, ast.Assign):
                    self.assertEqual([target.__class__ for target in node.targets], [ast.Name], name)
                    bound.append(node.targets[0].id)
                    self.check_plain(name, node.value)
                elif not isinstance(node, ast.Expr):
                    bound.append(node.name)
            self.assertEqual(sorted(bound), sorted(set(bound)), name)

    def check_plain(self, name, value):
        for node in ast.walk(value):
            if node is not value:
                self.assertNotIsInstance(node, (ast.List, ast.Dict), name)
            self.assertNotIsInstance(node, (ast.Call, ast.Set, ast.ListComp, ast.DictComp), name)

    def test_imports(self):
        seen = {}
        for name, tree in self.trees.items():
            seen[name] = []
            for node in tree.body:
                if isinstance(node, ast.ImportFrom):
                    file = node.module.split(".")[-1] + ".py"
                    self.assertEqual((node.level, node.module), (0, "foretask." + file[:-3]), name)
                    defined = self.defined(file)
                    for alias in node.names:
                        self.assertIsNone(alias.asname, name)
                        self.assertIn(alias.name, defined, (name, file))
                    seen[name].append(file)
        for _, node in self.nodes(ast.Import):
            self.fail("import")
        while seen:
            last = [name for name, files in seen.items() if not any(file in seen for file in files)]
            self.assertTrue(last, "files import each other: " + str(seen))
            for name in last:
                del seen[name]

    def defined(self, file):
        found = []
        for node in self.trees[file].body:
            if isinstance(node, ast.Assign):
                found.append(node.targets[0].id)
            elif isinstance(node, (ast.FunctionDef, ast.ClassDef)):
                found.append(node.name)
        return found

    def test_imports_are_used(self):
        for name, tree in self.trees.items():
            used = [node.id for node in ast.walk(tree) if isinstance(node, ast.Name)]
            for node in tree.body:
                if isinstance(node, ast.ImportFrom) and name != "__init__.py":
                    for alias in node.names:
                        self.assertIn(alias.name, used, name)

    def test_statements_and_expressions(self):
        for place, node in self.nodes(ast.stmt):
            self.assertIsInstance(node, STATEMENTS, place)
        for place, node in self.nodes(ast.Constant):
            self.assertNotIsInstance(node.value, (float, complex), place)
        for place, node in self.nodes(ast.Div, ast.SetComp, ast.Set, ast.Await, ast.AsyncFor, ast.NamedExpr):
            self.fail(place)
        for place, node in self.nodes(ast.Compare):
            if isinstance(node.ops[0], (ast.Is, ast.IsNot)):
                self.assertIsInstance(node.comparators[0], ast.Constant, place)
                self.assertIn(node.comparators[0].value, (None, True, False), place)

    def test_names(self):
        # The examples of README.md leave a name _ behind there.
        every = [name for name in dir(builtins) if name != "_"]
        for place, node in self.nodes(ast.Name):
            if isinstance(node.ctx, ast.Load):
                self.assertTrue(node.id not in every or node.id in BUILTINS, (place, node.id))
            else:
                self.check_name(place, node.id)
                self.assertNotIn(node.id, every, place)
        for place, node in self.nodes(ast.arg):
            self.check_name(place, node.arg)
            self.assertNotIn(node.arg, every, place)
        for place, node in self.nodes(ast.FunctionDef, ast.ClassDef):
            if node.name not in DOUBLE:
                self.check_name(place, node.name)
                self.assertNotIn(node.name, every, place)

    def check_name(self, place, name):
        self.assertFalse(name.startswith("__"), (place, name))
        self.assertNotIn(name, BARRED_NAMES, place)
        for start in ("_wall", "_pe_", "_dcw_", "_enum_", "_cm_", "_lay_", "_law_", "_stub_", "_sre", "_record", "_cold"):
            self.assertFalse(name.startswith(start), (place, name))

    def test_no_name_of_a_class_or_import_is_used_again(self):
        for name, tree in self.trees.items():
            taken = [node.name for node in tree.body if isinstance(node, ast.ClassDef)]
            for node in tree.body:
                if isinstance(node, ast.ImportFrom):
                    taken += [alias.name for alias in node.names]
            for node in ast.walk(tree):
                if isinstance(node, ast.arg):
                    self.assertNotIn(node.arg, taken, name)
                if isinstance(node, ast.Name) and not isinstance(node.ctx, ast.Load):
                    self.assertNotIn(node.id, taken, name)

    def test_methods_and_attributes(self):
        own = []
        for _, node in self.nodes(ast.ClassDef):
            methods = [inner.name for inner in node.body if isinstance(inner, ast.FunctionDef)]
            assigned = [inner.attr for inner in ast.walk(node)
                        if isinstance(inner, ast.Attribute) and isinstance(inner.ctx, ast.Store)]
            self.assertEqual([word for word in methods if word in assigned], [], node.name)
            self.assertEqual(sorted(methods), sorted(set(methods)), node.name)
            own += methods
        stored = {node.attr for _, node in self.nodes(ast.Attribute) if isinstance(node.ctx, ast.Store)}
        for place, node in self.nodes(ast.Attribute):
            if isinstance(node.ctx, ast.Store):
                self.assertNotIn(node.attr, BARRED_ATTRIBUTES, place)
                self.assertNotIn(node.attr, BARRED_NAMES[:9], place)
            else:
                self.assertTrue(node.attr in METHODS or node.attr in own or node.attr in stored, (place, node.attr))

    def test_strings_and_words(self):
        for place, node in self.nodes(ast.Constant):
            if isinstance(node.value, str):
                self.assertNotIn("%", node.value, place)
                self.assertFalse(node.value.startswith("__") and node.value.endswith("__"), place)
                self.assertFalse(node.value.endswith(("._", ".__")), place)
        for name, text in self.texts.items():
            for token in tokenize.generate_tokens(io.StringIO(text).readline):
                if token.type == tokenize.STRING:
                    for at, character in enumerate(token.string):
                        if character == "\\" and (at == 0 or token.string[at - 1] != "\\"):
                            self.assertIn(token.string[at + 1], "nt\\'\"", name)
                if token.type == tokenize.NAME:
                    self.assertNotIn(token.string, BARRED_WORDS, name)

    def test_the_interface_is_defined_in_its_files(self):
        for file, names in (
            ("errors", "ForetaskError TextFault NameFault UnknownVariable NoSuchStep BadImage"), ("words", "tokens"),
            ("strings", "shown_value quoted"), ("parsing", "parse parse_expression"), ("printing", "show show_expression"),
            ("scopes", "variables_of"), ("program", "Program compile_tree"), ("operators", "both negative opposite truth"),
            ("cells", "field_cell item_cell array_size"), ("leaving", "leave thrown"),
            ("steps", "beginning action with_value with_object waits"),
            ("serial", "Serial next_action serial_step run_serial value_of"), ("direct", "meaning"),
            ("without", "without_ahead"), ("machine", "Machine"), ("runs", "begun run_step"),
            ("publishing", "first_wrong publish"), ("trace", "trace"),
            ("moments", "place_at begins spawned_at reads_of_others allowed links"), ("back", "taken_back"),
            ("jobs", "jobs schedule"), ("profiles", "profile dependences without_variables"), ("advice", "advice"),
            ("rounds", "rounds"), ("history", "state_at changes reason readers visits"), ("numbers", "image"),
            ("images", "restore"), ("separate", "separate_loops"),
        ):
            for name in names.split():
                self.assertIn(name, self.defined(file + ".py"))
        self.check_methods("program", "Program", "listing")
        self.check_methods("machine", "Machine",
                           "step_task step_all step_first lose order __len__ readings_of value_at look")

    def parents(self):
        """Returns the node around each node, by the number of its place in memory."""
        found = {}
        for _, node in self.nodes(ast.AST):
            for inner in ast.iter_child_nodes(node):
                found[id(inner)] = node
        return found

    def test_iterated_at_once(self):
        """L23: these calls stand where something iterates over them; L7: no generator expressions."""
        parents = self.parents()
        for place, node in self.nodes(ast.Call):
            name = getattr(node.func, "id", "")
            method = node.func.attr if isinstance(node.func, ast.Attribute) else ""
            if name not in ("zip", "enumerate", "reversed", "range") and method not in ("items", "keys", "values"):
                continue
            around = parents[id(node)]
            if isinstance(around, ast.Call):
                self.assertIn(getattr(around.func, "id", ""), ("list", "tuple", "dict", "sorted", "sum", "any", "all", "enumerate",
                                                               "zip", "reversed"), place)
                if around.func.id == "reversed":
                    self.assertEqual(name, "range", place)
            else:
                self.assertIsInstance(around, (ast.For, ast.comprehension), place)
                self.assertIs(around.iter, node, place)
        for place, _ in self.nodes(ast.GeneratorExp, ast.Yield, ast.YieldFrom, ast.Lambda, ast.Global, ast.Nonlocal):
            self.fail(place)

    def test_sets(self):
        """L24: a set is made in sorted(..) alone."""
        parents = self.parents()
        for place, node in self.nodes(ast.Call):
            if getattr(node.func, "id", "") in ("set", "frozenset"):
                self.assertEqual(getattr(getattr(parents[id(node)], "func", None), "id", ""), "sorted", place)

    def test_calls(self):
        """L22, L25: keywords; L3: functions of tables are called by a name; L25: no sort."""
        own = [name for file in self.texts for name in self.defined(file)]
        for place, node in self.nodes(ast.Call):
            self.assertIsInstance(node.func, (ast.Name, ast.Attribute), place)
            if isinstance(node.func, ast.Attribute):
                self.assertEqual(node.keywords, [], place)
                self.assertNotIn(node.func.attr, ("sort", "format", "encode", "decode"), place)
            elif node.func.id not in own:
                self.assertTrue(all(key.arg in ("key", "reverse", "default", "start", "strict") for key in node.keywords), place)

    def test_loops_do_not_change_what_they_iterate_over(self):
        """L23, as far as it can be told by the words with which the loop names it."""
        for place, node in self.nodes(ast.For):
            over = [ast.unparse(node.iter)] + [ast.unparse(part) for part in getattr(node.iter, "args", ())]
            over += [ast.unparse(node.iter.func.value) for _ in (1,)
                     if isinstance(node.iter, ast.Call) and isinstance(node.iter.func, ast.Attribute)]
            for inner in [part for statement in node.body for part in ast.walk(statement)]:
                if isinstance(inner, ast.Call) and isinstance(inner.func, ast.Attribute):
                    if inner.func.attr in ("append", "extend", "insert", "pop", "remove", "clear", "reverse", "setdefault", "update"):
                        self.assertNotIn(ast.unparse(inner.func.value), over, place)
                if isinstance(inner, ast.Subscript) and not isinstance(inner.ctx, ast.Load):
                    self.assertNotIn(ast.unparse(inner.value), over, place)

    def test_module_level_tables_are_only_read(self):
        """L15"""
        tables = {}
        for name, tree in self.trees.items():
            for node in tree.body:
                if isinstance(node, ast.Assign) and isinstance(node.value, (ast.Dict, ast.List)):
                    tables[node.targets[0].id] = name
        parents = self.parents()
        for place, node in self.nodes(ast.Name):
            if node.id in tables and isinstance(node.ctx, ast.Load):
                around = parents[id(node)]
                if isinstance(around, ast.Attribute):
                    self.assertIn(around.attr, ("get", "items", "keys", "values", "index", "count"), place)
                else:
                    self.assertIsInstance(around, (ast.Subscript, ast.Compare, ast.For, ast.comprehension), place)
                    if isinstance(around, ast.Subscript):
                        self.assertIsInstance(around.ctx, ast.Load, place)

    def test_attributes_are_assigned_through_local_names(self):
        """L18"""
        for place, node in self.nodes(ast.Attribute):
            if isinstance(node.ctx, ast.Store):
                self.assertIsInstance(node.value, ast.Name, place)
            self.assertFalse(isinstance(node.ctx, ast.Del), place)

    def test_errors_are_raised_and_caught_by_name(self):
        """L19"""
        classes = [node.name for _, node in self.nodes(ast.ClassDef)]
        for place, node in self.nodes(ast.Raise):
            self.assertIsInstance(node.exc, ast.Call, place)
            self.assertIn(node.exc.func.id, classes, place)
            self.assertIsNone(node.cause, place)
        for place, node in self.nodes(ast.ExceptHandler):
            self.assertIn(node.type.id, classes, place)

    def test_numbers_and_strings(self):
        """L27: exponents, and the braces of f-strings."""
        for place, node in self.nodes(ast.BinOp):
            if isinstance(node.op, ast.Pow):
                self.assertIsInstance(node.right, ast.Constant, place)
                self.assertTrue(0 <= node.right.value <= 64, place)
        for place, node in self.nodes(ast.JoinedStr):
            self.assertEqual(node.lineno, node.end_lineno, place)
            for inner in ast.walk(node):
                if isinstance(inner, ast.FormattedValue):
                    self.assertIsNone(inner.format_spec, place)
                    self.assertFalse([part for part in ast.walk(inner.value) if isinstance(part, ast.JoinedStr)], place)

    def test_parameters(self):
        """L4, L21: defaults are plain, and nothing is annotated."""
        for place, node in self.nodes(ast.FunctionDef):
            for default in node.args.defaults + [one for one in node.args.kw_defaults if one is not None]:
                self.assertIsInstance(default, (ast.Constant, ast.UnaryOp, ast.Tuple), place)
            self.assertIsNone(node.returns, place)
            self.assertEqual(node.args.posonlyargs, [], place)
        for place, node in self.nodes(ast.arg):
            self.assertIsNone(node.annotation, place)

    def test_double_underscore_methods(self):
        """L28"""
        for place, node in self.nodes(ast.FunctionDef):
            returned = [inner.value for inner in ast.walk(node) if isinstance(inner, ast.Return)]
            if node.name == "__init__":
                self.assertEqual(returned, [], place)
            if node.name == "__len__":
                self.assertEqual([value.func.id for value in returned], ["len"], place)

    def check_methods(self, file, name, methods):
        """Each method of the interface is defined in its class itself."""
        found = [node for node in self.trees[file + ".py"].body if getattr(node, "name", "") == name][0]
        own = [node.name for node in found.body if isinstance(node, ast.FunctionDef)]
        for method in methods.split():
            self.assertIn(method, own)


if __name__ == "__main__":
    unittest.main()
