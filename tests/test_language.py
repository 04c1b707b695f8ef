"""The files of the package keep to the small subset of the language in which they are written, as far as this sees."""

import ast
import builtins
import pathlib
import re
import unittest

import evenpatch

FOLDER = pathlib.Path(evenpatch.__file__).parent
LIBRARY = {"math": {"gcd", "lcm", "isqrt", "comb", "perm", "factorial"}, "itertools": {"product", "combinations",
           "permutations"}, "heapq": {"heappush", "heappop", "heapify"}}
USED = set("""len range enumerate zip min max sum abs sorted reversed int str bool list tuple dict set isinstance ord repr
any all divmod ValueError""".split())
METHODS = set("""append clear copy count endswith extend find get index insert isalnum isalpha isdigit islower isspace
isupper items join keys ljust lower lstrip partition pop remove replace reverse rfind rjust rpartition rsplit rstrip
setdefault split splitlines startswith strip update upper values zfill bit_length isascii""".split())
DOUBLE = set("""__init__ __eq__ __str__ __len__ __contains__ __add__ __radd__ __sub__ __rsub__ __mul__ __rmul__
__neg__""".split())
BARRED_NODES = (ast.AsyncFunctionDef, ast.Await, ast.Global, ast.GeneratorExp, ast.Div, ast.With,
                ast.Match, ast.Set, ast.Lambda, ast.Yield, ast.YieldFrom, ast.AnnAssign, ast.NamedExpr, ast.Assert)
BARRED_ATTRIBUTES = METHODS - set("count index title find get join lower upper split strip copy".split()) | {"args", "sort"}
TAKEN = {"_cold", "_tuplegetter", "_outside", "_record", "_written_out", "_member_names"}
BARRED_WORDS = re.compile(r"\b(register|mro|elements|open|input|law|type|typing|enum|Protocol|Generic|id|vars|eval)\b")


def sources():
    return sorted(FOLDER.glob("*.py"))


def tree_of(file):
    return ast.parse(file.read_text())


def bound_names(tree):
    """Parameters and names that are assigned, each with its line."""
    for node in ast.walk(tree):
        if isinstance(node, ast.arg):
            yield node.arg, node.lineno
        if isinstance(node, ast.Name) and isinstance(node.ctx, ast.Store):
            yield node.id, node.lineno


class Language(unittest.TestCase):
    def each(self):
        return [(file, tree_of(file)) for file in sources()]

    def test_files(self):
        for path in FOLDER.iterdir():
            if path.name != "__pycache__":
                self.assertRegex(path.name, r"^[a-z0-9_]+\.py$")
        for file in sources():
            text = file.read_bytes().decode("ascii")
            self.assertTrue(all(" " <= sign <= "~" or sign == "\n" for sign in text), file.name)
            self.assertLessEqual(len(text.splitlines()), 399, file.name)
            self.assertLessEqual(max(len(line) for line in text.splitlines()), 120, file.name)

    def test_module_level(self):
        for file, tree in self.each():
            for node in tree.body:
                if isinstance(node, ast.Expr):
                    self.assertIsInstance(node.value, ast.Constant)
                elif isinstance(node, ast.Assign):
                    ast.literal_eval(node.value)
                else:
                    self.assertIsInstance(node, (ast.ImportFrom, ast.FunctionDef, ast.ClassDef))

    def test_imports(self):
        for file, tree in self.each():
            for node in ast.walk(tree):
                self.assertNotIsInstance(node, ast.Import)
                if isinstance(node, ast.ImportFrom):
                    names = {alias.name for alias in node.names}
                    self.assertTrue(all(alias.asname is None for alias in node.names))
                    if node.module in LIBRARY:
                        self.assertLessEqual(names, LIBRARY[node.module])
                    else:
                        self.check_own_import(node, names)

    def check_own_import(self, node, names):
        self.assertEqual((node.module.split(".")[0], node.level), ("evenpatch", 0))
        home = tree_of(FOLDER / (node.module.split(".")[1] + ".py"))
        defined = set()
        for item in home.body:
            if isinstance(item, (ast.FunctionDef, ast.ClassDef)):
                defined.add(item.name)
            if isinstance(item, ast.Assign):
                defined.add(item.targets[0].id)
        self.assertLessEqual(names, defined)

    def test_no_two_files_import_each_other(self):
        needs = {}
        for file in sources():
            needs[file.stem] = {node.module.split(".")[1] for node in ast.walk(tree_of(file))
                                if isinstance(node, ast.ImportFrom) and node.module.startswith("evenpatch.")}
        while needs:
            free = [name for name, wanted in needs.items() if not wanted & set(needs)]
            self.assertTrue(free, needs)
            for name in free:
                del needs[name]

    def test_functions(self):
        for file, tree in self.each():
            for node in ast.walk(tree):
                if isinstance(node, ast.FunctionDef):
                    self.assertLessEqual(node.end_lineno - node.lineno + 1, 40, node.name)
                    self.assertEqual(node.decorator_list, [])
                    if node.name.startswith("__"):
                        self.assertIn(node.name, DOUBLE)
                if isinstance(node, ast.ClassDef):
                    names = [item.name for item in node.body if isinstance(item, ast.FunctionDef)]
                    self.assertEqual(len(names), len(set(names)))
                    self.assertEqual(node.decorator_list, [])

    def test_nodes(self):
        for file, tree in self.each():
            for node in ast.walk(tree):
                self.assertNotIsInstance(node, BARRED_NODES, f"{file.name}:{getattr(node, 'lineno', '')}")
                if isinstance(node, ast.BinOp) and isinstance(node.op, ast.Pow):
                    self.assertIn(node.right.value, range(65))
                if isinstance(node, ast.Try):
                    self.assertEqual([handler.type.id for handler in node.handlers], ["PactError"])
                    self.assertEqual(node.orelse + node.finalbody, [])
                if isinstance(node, ast.AugAssign):
                    self.assertIsInstance(node.target, ast.Name)
                    self.assertIsInstance(node.value, ast.Constant)
                if isinstance(node, ast.Constant):
                    self.assertNotIsInstance(node.value, (float, complex, bytes))
                    self.assertFalse(isinstance(node.value, str) and "%" in node.value)

    def test_names(self):
        for file, tree in self.each():
            text = file.read_text()
            imported = {alias.name for node in ast.walk(tree) if isinstance(node, ast.ImportFrom) for alias in node.names}
            classes = {node.name for node in ast.walk(tree) if isinstance(node, ast.ClassDef)}
            for name, line in bound_names(tree):
                self.assertNotIn(name, dir(builtins), line)
                self.assertNotIn(name, imported | classes, line)
                self.assertRegex(name, r"^(_|_?[A-Za-z][A-Za-z0-9_]*)$")
            for node in ast.walk(tree):
                if isinstance(node, (ast.FunctionDef, ast.ClassDef)):
                    self.assertNotIn(node.name, dir(builtins))
                if isinstance(node, ast.Name) and hasattr(builtins, node.id):
                    self.assertIn(node.id, USED)
            bare = re.sub(r'"""[\s\S]*?"""|#.*', "", text)
            self.assertIsNone(BARRED_WORDS.search(bare))

    def test_names_of_methods_and_attributes_differ(self):
        methods, attributes = set(), set()
        for file, tree in self.each():
            for node in ast.walk(tree):
                if isinstance(node, ast.ClassDef):
                    methods |= {item.name for item in node.body if isinstance(item, ast.FunctionDef)}
                if isinstance(node, ast.Attribute) and isinstance(node.ctx, ast.Store):
                    attributes.add(node.attr)
        # The interface has it as a method of a Desk and as an attribute of a Space.
        self.assertEqual(methods & attributes, {"names"})
        self.assertEqual(attributes & BARRED_ATTRIBUTES, set())
        self.assertEqual((methods | attributes) & TAKEN, set())
        for name in methods | attributes | {name for _, tree in self.each() for name, _ in bound_names(tree)}:
            self.assertIsNone(re.match("_wall|_pe_|_dcw_|_enum_|_cm_|_twin_re_|_lay_|_law_|_stub_|_sre|_WallAttr", name), name)

    def test_attributes_are_assigned_through_names(self):
        for file, tree in self.each():
            for node in ast.walk(tree):
                if isinstance(node, ast.Attribute) and isinstance(node.ctx, ast.Store):
                    self.assertIsInstance(node.value, ast.Name, f"{file.name}:{node.lineno}")

    def test_methods_that_are_called(self):
        own = {item.name for file in sources() for item in ast.walk(tree_of(file)) if isinstance(item, ast.FunctionDef)}
        for file, tree in self.each():
            for node in ast.walk(tree):
                if isinstance(node, ast.Call) and isinstance(node.func, ast.Attribute):
                    self.assertIn(node.func.attr, METHODS | own)
                    if node.func.attr in METHODS:
                        self.assertEqual(node.keywords, [])

    def test_sets_are_counted_or_sorted_only(self):
        for file, tree in self.each():
            inside = set()
            for node in ast.walk(tree):
                if isinstance(node, ast.Call) and isinstance(node.func, ast.Name) and node.func.id in ("len", "sorted"):
                    inside.update(id(item) for item in node.args)
            for node in ast.walk(tree):
                if isinstance(node, ast.Call) and isinstance(node.func, ast.Name) and node.func.id == "set":
                    self.assertIn(id(node), inside)
                self.assertNotIsInstance(node, ast.SetComp)


if __name__ == "__main__":
    unittest.main()
