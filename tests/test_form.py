"""The form of the code: the rules of the language that can be seen file by file."""

import ast
import builtins
import pathlib
import unittest

FOLDER = pathlib.Path(__file__).resolve().parent.parent / "surehedge"
BUILTINS = """
len range enumerate zip min max sum abs sorted reversed int str bool list tuple dict set isinstance ord repr any all
divmod iter next ValueError property
""".split()
METHODS = """
append clear copy count endswith extend find get index insert isalnum isalpha isdigit islower isspace isupper items
join keys ljust lower lstrip partition pop remove replace reverse rfind rjust rpartition rsplit rstrip setdefault split
splitlines startswith strip update upper values zfill removeprefix removesuffix rindex
""".split()
NOT_USED = """
register mro elements open input law version_info with_traceback add_note attrgetter breakpoint builtins compile
copyright credits delattr dir eval exec exit gc getattr globals hasattr help id importlib license locals methodcaller os
quit setattr super type vars sys
""".split()
NODES = (
    ast.AsyncFunctionDef, ast.AsyncFor, ast.AsyncWith, ast.Await, ast.Global, ast.Div, ast.MatMult, ast.AnnAssign,
)


def files():
    return sorted(FOLDER.glob("*.py"))


def bound_names(tree):
    """All names that a file binds: variables, parameters, functions, classes, imports."""
    for node in ast.walk(tree):
        if isinstance(node, ast.Name) and not isinstance(node.ctx, ast.Load):
            yield node.id
        if isinstance(node, ast.arg):
            yield node.arg
        if isinstance(node, (ast.FunctionDef, ast.ClassDef)):
            yield node.name
        if isinstance(node, ast.alias):
            yield node.asname or node.name


class Form(unittest.TestCase):
    def each(self):
        for path in files():
            text = path.read_text(encoding="utf-8")
            yield path, text, ast.parse(text)

    def test_sizes_and_characters(self):
        for _, text, tree in self.each():
            lines = text.split("\n")
            self.assertLessEqual(len(lines), 399)
            self.assertLessEqual(max(map(len, lines)), 120)
            self.assertTrue(all(mark == "\n" or " " <= mark <= "~" for mark in text))
            for node in ast.walk(tree):
                if isinstance(node, ast.FunctionDef):
                    self.assertLessEqual(node.end_lineno - node.lineno + 1, 40, node.name)
                    self.assertIn([ast.unparse(each) for each in node.decorator_list], ([], ["property"]))

    def test_statements_and_values(self):
        for _, _, tree in self.each():
            for node in ast.walk(tree):
                self.assertNotIsInstance(node, NODES)
                if isinstance(node, ast.Constant):
                    self.assertNotIsInstance(node.value, (float, complex))
                    self.assertFalse(isinstance(node.value, str) and "%" in node.value)
                if isinstance(node, ast.Compare):
                    for sign, right in zip(node.ops, node.comparators):
                        if isinstance(sign, (ast.Is, ast.IsNot)):
                            self.assertIsInstance(right, ast.Constant)

    def check_plain(self, value, names):
        """Fails if it is not a plain value, or a table of plain values and functions defined above."""
        if isinstance(value, ast.Dict) and any(isinstance(each, ast.Name) for each in value.values):
            for key, each in zip(value.keys, value.values):
                self.assertIsInstance(ast.literal_eval(key), str)
                self.assertIn(each.id, names)
        else:
            ast.literal_eval(value)

    def test_module_level(self):
        kinds = (ast.Expr, ast.ImportFrom, ast.FunctionDef, ast.ClassDef, ast.Assign)
        for _, _, tree in self.each():
            names = []
            for node in tree.body:
                self.assertIsInstance(node, kinds)
                if isinstance(node, ast.Expr):
                    self.assertIsInstance(node.value, ast.Constant)
                if isinstance(node, ast.Assign):
                    names += [target.id for target in node.targets]
                    self.check_plain(node.value, names)
                if isinstance(node, ast.ImportFrom):
                    names += [each.name for each in node.names]
                if isinstance(node, (ast.FunctionDef, ast.ClassDef)):
                    names.append(node.name)
            self.assertEqual(len(names), len(set(names)))

    def test_names(self):
        allowed = set(dir(builtins))
        for _, _, tree in self.each():
            top = [each.name for node in tree.body if isinstance(node, ast.ImportFrom) for each in node.names]
            for name in bound_names(tree):
                self.assertNotIn(name, allowed)
                self.assertNotIn(name, NOT_USED)
            inner = [name for node in ast.walk(tree) if isinstance(node, ast.FunctionDef) for name in bound_names(node)]
            self.assertEqual(set(inner) & set(top), set())
            for node in ast.walk(tree):
                if isinstance(node, ast.Name) and isinstance(node.ctx, ast.Load) and node.id in allowed:
                    self.assertIn(node.id, BUILTINS)

    def own_methods(self):
        for _, _, tree in self.each():
            for node in ast.walk(tree):
                if isinstance(node, ast.ClassDef):
                    yield from [each.name for each in node.body if isinstance(each, ast.FunctionDef)]

    def test_methods(self):
        own = set(self.own_methods())
        for _, _, tree in self.each():
            for node in ast.walk(tree):
                if isinstance(node, ast.Call) and isinstance(node.func, ast.Attribute):
                    self.assertIn(node.func.attr, own | set(METHODS))
                    if node.func.attr not in own:
                        self.assertEqual(node.keywords, [])

    def test_own_methods_and_attributes_have_names_of_their_own(self):
        taken = {name for kind in (str, int, list, dict, set, bytes, tuple) for name in dir(kind)} - {"__init__"}
        self.assertEqual(set(self.own_methods()) & taken, {"__len__"})
        for _, _, tree in self.each():
            for node in ast.walk(tree):
                if isinstance(node, ast.Attribute) and isinstance(node.ctx, ast.Store):
                    self.assertNotIn(node.attr, taken)

    def test_imports(self):
        library = {"math": {"gcd", "lcm"}}
        found = {}
        for path, _, tree in self.each():
            found[path.stem] = set()
            for node in ast.walk(tree):
                self.assertNotIsInstance(node, ast.Import)
                if isinstance(node, ast.ImportFrom):
                    names = {each.name for each in node.names}
                    if node.module in library:
                        self.assertLessEqual(names, library[node.module])
                        continue
                    file = node.module.removeprefix("surehedge.")
                    source = ast.parse((FOLDER / (file + ".py")).read_text(encoding="utf-8"))
                    defined = {each.name for each in source.body if isinstance(each, (ast.FunctionDef, ast.ClassDef))}
                    for each in source.body:
                        if isinstance(each, ast.Assign):
                            defined |= {target.id for target in each.targets}
                    self.assertLessEqual(names, defined)
                    found[path.stem].add(file)
        while found:
            free = [name for name, others in found.items() if not others & set(found)]
            self.assertNotEqual(free, [], "files import from each other")
            for name in free:
                del found[name]

    def test_the_folder_holds_nothing_else(self):
        others = [path.name for path in FOLDER.iterdir() if path.suffix != ".py" and path.name != "__pycache__"]
        self.assertEqual(others, [])


if __name__ == "__main__":
    unittest.main()
