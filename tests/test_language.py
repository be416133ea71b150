"""Looks over the package's files for what ../shared/LANGUAGE.md bars, as far as a look at the code can tell.

It is stricter than the document where the package does not need a thing at all (generators, lambdas).
"""

import ast
import builtins
import pathlib
import unittest

FOLDER = pathlib.Path(__file__).parent.parent / "tallyhouse"
FILES = sorted(FOLDER.glob("*.py"))
LIBRARY = {"math": {"gcd", "lcm"}}
CALLED = set("""len range enumerate zip min max sum abs sorted reversed int str bool list tuple dict set isinstance
    ord repr any all divmod Exception property classmethod""".split())
METHODS = set("""append clear copy count endswith extend find get index insert isdigit items join keys partition pop
    remove replace reverse rfind setdefault split startswith strip update values zfill bit_length removeprefix
    removesuffix""".split())
BARRED = set("""register mro elements open input law version_info with_traceback add_note attrgetter breakpoint
    compile delattr dir eval exec exit gc getattr globals hasattr help id importlib license locals os quit setattr
    super type vars sys __name__ __class__""".split())
WORDS = set("""type typing typing_extensions enum Enum IntEnum StrEnum Flag IntFlag Generic Protocol ABC ABCMeta
    namedtuple NamedTuple TypedDict TYPE_CHECKING abstractmethod""".split())
BARRED_NODES = (ast.GeneratorExp, ast.Yield, ast.YieldFrom, ast.Lambda, ast.Global, ast.Nonlocal, ast.AsyncFor,
                ast.AsyncFunctionDef, ast.AsyncWith, ast.Await, ast.With, ast.Match, ast.Import, ast.AnnAssign,
                ast.Div, ast.MatMult, ast.Starred, ast.NamedExpr, ast.Set, ast.SetComp, ast.Assert, ast.Delete)
CHANGES = {"append", "pop", "extend", "insert", "clear", "update", "remove", "reverse", "setdefault"}


def own_methods(trees):
    return {inner.name for tree in trees.values() for node in ast.walk(tree) if isinstance(node, ast.ClassDef)
            for inner in node.body if isinstance(inner, ast.FunctionDef)}


def bound_names(function):
    """Parameters and local variables, comprehension variables too."""
    found = {argument.arg for argument in ast.walk(function) if isinstance(argument, ast.arg)}
    return found | {node.id for node in ast.walk(function)
                    if isinstance(node, ast.Name) and isinstance(node.ctx, ast.Store)}


class LanguageTest(unittest.TestCase):
    @classmethod
    def setUpClass(cls):
        cls.texts = {file.name: file.read_text() for file in FILES}
        cls.trees = {name: ast.parse(text) for name, text in cls.texts.items()}

    def nodes(self):
        for name, tree in self.trees.items():
            for node in ast.walk(tree):
                yield name, node

    def told(self, name, node):
        return f"{name}:{getattr(node, 'lineno', '?')}: {ast.unparse(node)}"

    def test_the_folder_has_files_of_the_package_alone(self):
        others = [thing.name for thing in FOLDER.iterdir() if thing.suffix != ".py" and thing.name != "__pycache__"]
        self.assertEqual(others, [])
        self.assertIn("__init__.py", self.texts)

    def test_sizes_and_signs(self):
        for name, text in self.texts.items():
            self.assertTrue(all(" " <= sign <= "~" or sign == "\n" for sign in text), name)
            lines = text.split("\n")
            self.assertLess(len(lines), 400, name)
            self.assertLessEqual(max(map(len, lines)), 120, name)
            self.assertTrue(text.endswith("\n") and not text.endswith("\n\n"), name)
        for name, node in self.nodes():
            if isinstance(node, ast.FunctionDef):
                self.assertLessEqual(node.end_lineno - node.lineno + 1, 40, self.told(name, node))

    def test_module_level(self):
        for name, tree in self.trees.items():
            for node in tree.body:
                plain = isinstance(node, ast.Assign) and len(node.targets) == 1 and isinstance(node.targets[0], ast.Name)
                docstring = isinstance(node, ast.Expr) and isinstance(node.value, ast.Constant)
                self.assertTrue(plain or docstring or isinstance(node, (ast.ImportFrom, ast.FunctionDef, ast.ClassDef)),
                                self.told(name, node))
            self.assertIsNotNone(ast.get_docstring(tree), name)

    def test_names_at_module_level_are_bound_once(self):
        for name, tree in self.trees.items():
            found = []
            for node in tree.body:
                if isinstance(node, (ast.FunctionDef, ast.ClassDef)):
                    found.append(node.name)
                if isinstance(node, ast.ImportFrom):
                    found.extend(alias.name for alias in node.names)
                if isinstance(node, ast.Assign):
                    found.append(node.targets[0].id)
            self.assertEqual(len(found), len(set(found)), name)

    def test_imports_name_the_file_that_defines(self):
        for name, node in self.nodes():
            if not isinstance(node, ast.ImportFrom):
                continue
            self.assertTrue(node in self.trees[name].body and node.level == 0, self.told(name, node))
            names = [alias.name for alias in node.names]
            self.assertTrue(all(alias.asname is None for alias in node.names), self.told(name, node))
            if node.module in LIBRARY:
                self.assertLessEqual(set(names), LIBRARY[node.module])
                continue
            self.assertTrue(node.module.startswith("tallyhouse."), self.told(name, node))
            body = self.trees[node.module.removeprefix("tallyhouse.") + ".py"].body
            defined = {inner.name for inner in body if isinstance(inner, (ast.FunctionDef, ast.ClassDef))}
            defined |= {inner.targets[0].id for inner in body if isinstance(inner, ast.Assign)}
            self.assertLessEqual(set(names), defined, self.told(name, node))

    def test_each_import_is_used(self):
        for name, tree in self.trees.items():
            used = {node.id for node in ast.walk(tree) if isinstance(node, ast.Name)}
            for node in tree.body:
                if isinstance(node, ast.ImportFrom):
                    self.assertLessEqual({alias.name for alias in node.names}, used, name)

    def test_no_files_import_each_other(self):
        asked = {name: {node.module.removeprefix("tallyhouse.") + ".py" for node in tree.body
                        if isinstance(node, ast.ImportFrom) and node.module not in LIBRARY}
                 for name, tree in self.trees.items()}
        left = dict(asked)
        while left:
            free = [name for name in left if not left[name] & set(left)]
            self.assertTrue(free, sorted(left))
            for name in free:
                del left[name]

    def test_nodes_that_are_not_used(self):
        for name, node in self.nodes():
            self.assertNotIsInstance(node, BARRED_NODES, name)
            if isinstance(node, ast.FunctionDef):
                self.assertEqual([ast.unparse(thing) for thing in node.decorator_list if ast.unparse(thing)
                                  not in ("property", "classmethod")], [])
                self.assertFalse(node.args.vararg or node.args.kwarg or node.args.kwonlyargs or node.args.defaults)
            if isinstance(node, ast.Compare) and any(isinstance(op, (ast.Is, ast.IsNot)) for op in node.ops):
                self.assertIn(ast.unparse(node.comparators[0]), ("None", "True", "False"), self.told(name, node))
            if isinstance(node, ast.BinOp) and isinstance(node.op, ast.Pow):
                self.assertTrue(isinstance(node.right, ast.Constant) and node.right.value <= 64, self.told(name, node))
            if isinstance(node, ast.Constant):
                self.assertNotIsInstance(node.value, (float, complex, bytes), self.told(name, node))
            if isinstance(node, ast.ClassDef):
                self.assertEqual(node.decorator_list + node.keywords, [])
                self.assertLessEqual(len(node.bases), 1)
            if isinstance(node, (ast.FunctionDef, ast.ClassDef)):
                self.assertTrue(node.name.startswith("__") or ast.get_docstring(node), self.told(name, node))

    def test_errors_that_are_caught_and_raised(self):
        own = {node.name for node in self.trees["errors.py"].body if isinstance(node, ast.ClassDef)}
        for name, node in self.nodes():
            if isinstance(node, ast.Try):
                self.assertEqual((node.finalbody, node.orelse), ([], []), self.told(name, node))
                for handler in node.handlers:
                    self.assertIsNone(handler.name, self.told(name, node))
                    self.assertIsInstance(handler.type, ast.Name, self.told(name, node))
                    self.assertIn(handler.type.id, own, self.told(name, node))
            if isinstance(node, ast.Raise):
                self.assertIsInstance(node.exc, ast.Call, self.told(name, node))
                self.assertIn(node.exc.func.id, own, self.told(name, node))
                self.assertEqual(node.exc.keywords, [], self.told(name, node))
            if isinstance(node, ast.ClassDef) and name == "errors.py":
                self.assertIn(node.bases[0].id, own | {"Exception"})

    def test_strings(self):
        for name, node in self.nodes():
            if isinstance(node, ast.Constant) and isinstance(node.value, str):
                self.assertNotIn("%", node.value, name)
                if "\n" not in node.value or len(node.value) < 4:
                    self.assertFalse(set(node.value.replace(".", " ").split()) & {"__class__"}, name)
        for name, tree in self.trees.items():
            documents = {id(node.body[0].value) for node in ast.walk(tree)
                         if isinstance(node, (ast.Module, ast.FunctionDef, ast.ClassDef)) and ast.get_docstring(node)}
            for node in ast.walk(tree):
                if isinstance(node, ast.Constant) and isinstance(node.value, str) and id(node) not in documents:
                    self.assertFalse(set(node.value.split()) & WORDS, self.told(name, node))

    def test_builtins(self):
        others = set(vars(builtins)) - CALLED - {"True", "False", "None"}
        for name, node in self.nodes():
            if isinstance(node, ast.Name):
                if isinstance(node.ctx, ast.Load):
                    self.assertNotIn(node.id, others, self.told(name, node))
                self.assertNotIn(node.id, BARRED | WORDS, self.told(name, node))
            if isinstance(node, ast.Attribute):
                self.assertNotIn(node.attr, BARRED | WORDS | {"format"}, self.told(name, node))

    def test_names_that_are_bound(self):
        known = set(vars(builtins))
        for name, tree in self.trees.items():
            taken = {alias.name for node in tree.body if isinstance(node, ast.ImportFrom) for alias in node.names}
            taken |= {node.name for node in tree.body if isinstance(node, ast.ClassDef)}
            functions = {node.name for node in tree.body if isinstance(node, ast.FunctionDef)}
            self.assertFalse((functions | taken) & (known | BARRED | WORDS), name)
            for node in ast.walk(tree):
                if isinstance(node, ast.FunctionDef):
                    bound = bound_names(node)
                    self.assertFalse(bound & (taken | functions | known | BARRED | WORDS), f"{name}: {node.name}")
                    self.assertFalse([word for word in bound if word.startswith("__")], name)
                    if "_" in bound:
                        self.assertFalse([inner for inner in ast.walk(node) if isinstance(inner, ast.Name)
                                          and inner.id == "_" and isinstance(inner.ctx, ast.Load)], name)

    def test_methods(self):
        own = own_methods(self.trees)
        for name, node in self.nodes():
            if isinstance(node, ast.Call) and isinstance(node.func, ast.Attribute):
                self.assertIn(node.func.attr, METHODS | own, self.told(name, node))
                if node.func.attr in METHODS:
                    self.assertEqual(node.keywords, [], self.told(name, node))
        self.assertFalse(own & set(dir(str) + dir(list) + dir(dict) + dir(int) + dir(bytes) + dir(set))
                         - {"__init__", "__eq__", "__len__", "__str__"})

    def test_what_is_iterated_is_not_changed(self):
        for name, node in self.nodes():
            if isinstance(node, ast.For):
                read = {ast.unparse(inner) for inner in ast.walk(node.iter) if isinstance(inner, (ast.Name, ast.Attribute))}
                for inner in node.body:
                    for call in ast.walk(inner):
                        if (isinstance(call, ast.Call) and isinstance(call.func, ast.Attribute)
                                and call.func.attr in CHANGES):
                            self.assertNotIn(ast.unparse(call.func.value), read, self.told(name, node))
                        if isinstance(call, ast.Subscript) and isinstance(call.ctx, ast.Store):
                            self.assertNotIn(ast.unparse(call.value), read, self.told(name, node))

    def test_views_are_iterated_at_once(self):
        for name, tree in self.trees.items():
            for node in ast.walk(tree):
                for child in ast.iter_child_nodes(node):
                    if not isinstance(child, ast.Call):
                        continue
                    word = child.func.id if isinstance(child.func, ast.Name) else getattr(child.func, "attr", "")
                    if word not in ("zip", "enumerate", "reversed", "range", "items", "keys", "values"):
                        continue
                    at_once = isinstance(node, (ast.For, ast.comprehension)) or (
                        isinstance(node, ast.Call) and isinstance(node.func, ast.Name)
                        and node.func.id in ("list", "tuple", "sorted", "sum", "enumerate", "zip", "reversed", "max", "min"))
                    self.assertTrue(at_once, self.told(name, node))

    def test_attributes_and_methods_have_unlike_names(self):
        for name, tree in self.trees.items():
            for node in tree.body:
                if isinstance(node, ast.ClassDef):
                    methods = {inner.name for inner in node.body if isinstance(inner, ast.FunctionDef)}
                    attributes = {inner.attr for inner in ast.walk(node)
                                  if isinstance(inner, ast.Attribute) and isinstance(inner.ctx, ast.Store)}
                    self.assertFalse(methods & attributes, node.name)

    def test_methods_and_attributes_of_all_classes_have_unlike_names(self):
        methods, attributes = set(), set()
        for name, node in self.nodes():
            if isinstance(node, ast.ClassDef):
                methods |= {inner.name for inner in node.body if isinstance(inner, ast.FunctionDef)}
            if isinstance(node, ast.Attribute) and isinstance(node.ctx, ast.Store):
                attributes.add(node.attr)
        self.assertFalse(methods & attributes)
        for name, node in self.nodes():
            if isinstance(node, ast.Attribute) and isinstance(node.ctx, ast.Load):
                self.assertIn(node.attr, methods | attributes | METHODS, self.told(name, node))

    def test_tables_at_module_level_are_plain_and_only_read(self):
        for name, tree in self.trees.items():
            tables = set()
            functions = {node.name for node in tree.body if isinstance(node, ast.FunctionDef)}
            for node in tree.body:
                if isinstance(node, ast.Assign):
                    inner = [part for part in ast.walk(node.value) if part is not node.value]
                    self.assertFalse([part for part in inner if isinstance(part, (ast.List, ast.Dict, ast.Call))],
                                     self.told(name, node))
                    self.assertLessEqual({part.id for part in inner if isinstance(part, ast.Name)}, functions)
                    if isinstance(node.value, (ast.List, ast.Dict)):
                        tables.add(node.targets[0].id)
            for node in ast.walk(tree):
                for child in ast.iter_child_nodes(node):
                    if isinstance(child, ast.Name) and child.id in tables and isinstance(child.ctx, ast.Load):
                        read = (isinstance(node, ast.Subscript) and isinstance(node.ctx, ast.Load)
                                or isinstance(node, ast.Compare)
                                or isinstance(node, ast.Attribute) and node.attr == "get")
                        self.assertTrue(read, self.told(name, node))
                if isinstance(node, ast.Call):
                    self.assertNotIsInstance(node.func, ast.Subscript, self.told(name, node))
