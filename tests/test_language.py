"""The package keeps to the small part of the language that its code is written in."""

import ast
import pathlib
import re
import unittest

PACKAGE = pathlib.Path(__file__).resolve().parent.parent / "manyhandsdesk"

STATEMENTS = (ast.Assign, ast.AugAssign, ast.If, ast.While, ast.For, ast.Return, ast.Break, ast.Continue, ast.Pass,
              ast.Raise, ast.Try, ast.Expr, ast.FunctionDef, ast.ClassDef, ast.ImportFrom)
EXPRESSIONS = (ast.Constant, ast.Name, ast.List, ast.Tuple, ast.Dict, ast.BinOp, ast.UnaryOp, ast.BoolOp, ast.Compare,
               ast.IfExp, ast.Call, ast.Attribute, ast.Subscript, ast.Slice, ast.ListComp, ast.Lambda, ast.JoinedStr,
               ast.FormattedValue)
OWN_NAMES = {"len", "range", "enumerate", "zip", "min", "max", "sum", "abs", "sorted", "reversed", "int", "str", "bool",
             "list", "tuple", "dict", "isinstance", "ord", "repr", "any", "all", "divmod", "Exception", "ValueError",
             "KeyError"}
METHODS = set("""append clear copy count endswith extend find get index insert isalnum isalpha isdigit islower isspace
    isupper items join keys ljust lower lstrip partition pop remove replace reverse rfind rjust rpartition rsplit rstrip
    setdefault split splitlines startswith strip update upper values zfill bit_length""".split())
UNUSED_NAMES = set("""register mro elements open input version_info with_traceback add_note format format_map attrgetter
    breakpoint builtins compile copyright credits delattr dir eval exec exit gc getattr globals hasattr help id importlib
    license locals methodcaller os quit setattr super type vars sys print chr""".split())
UNUSED_WORDS = ("type typing typing_extensions enum Enum IntEnum StrEnum Flag IntFlag Generic Protocol ABC ABCMeta "
                "namedtuple NamedTuple TypedDict TYPE_CHECKING abstractmethod").split()
PYTHONS_OWN = set(dir(__builtins__) if not isinstance(__builtins__, dict) else __builtins__)
WALKED_AT_ONCE = ("zip", "enumerate", "reversed", "range")


def sources():
    return [(path, path.read_text("utf-8")) for path in sorted(PACKAGE.glob("*.py"))]


def trees():
    return [(path, ast.parse(text)) for path, text in sources()]


def nodes(kinds):
    return [(path.name, node) for path, tree in trees() for node in ast.walk(tree) if isinstance(node, kinds)]


class Language(unittest.TestCase):
    def holds(self, good, where, node):
        self.assertTrue(good, f"{where} line {node.lineno}: {ast.unparse(node)[:100]}")

    def test_files(self):
        names = [path.name for path in PACKAGE.iterdir() if path.name != "__pycache__"]
        self.assertIn("__init__.py", names)
        for name in names:
            self.assertRegex(name, r"\A(__init__|[a-z][a-z0-9_]*)\.py\Z")
            self.assertNotIn(name[:-3], PYTHONS_OWN)

    def test_signs_sizes_and_words(self):
        for path, text in sources():
            self.assertRegex(text, r"\A[ -~\n]*\Z", path.name)
            lines = text.split("\n")
            self.assertLessEqual(len(lines), 400, path.name)
            self.assertLessEqual(max(len(line) for line in lines), 120, path.name)
            for word in UNUSED_WORDS:
                self.assertIsNone(re.search(rf"\b{word}\b", text), f"{path.name}: {word}")
            self.assertIsNone(re.search("dataclass|overload|contextmanager", text), path.name)

    def test_functions(self):
        for where, node in nodes(ast.FunctionDef):
            self.holds(node.end_lineno - node.lineno < 40, where, node)
            arguments = node.args
            plain = not (arguments.vararg or arguments.kwarg or arguments.kwonlyargs or arguments.posonlyargs)
            self.holds(plain and not node.decorator_list and node.returns is None, where, node)

    def test_statements_and_expressions(self):
        for where, node in nodes((ast.stmt, ast.expr)):
            self.holds(isinstance(node, STATEMENTS + EXPRESSIONS), where, node)
        for where, node in nodes(ast.Assign):
            self.holds(len(node.targets) == 1 and not isinstance(node.targets[0], ast.Tuple), where, node)
        for where, node in nodes((ast.For, ast.While)):
            self.holds(not node.orelse, where, node)
        for where, node in nodes(ast.Try):
            self.holds(not node.finalbody and all(handler.type for handler in node.handlers), where, node)
        for where, node in nodes(ast.ListComp):
            self.holds(len(node.generators) == 1 and len(node.generators[0].ifs) < 2, where, node)
        for where, node in nodes(ast.Constant):
            self.holds(node.value is None or type(node.value) in (int, str, bool), where, node)
            self.holds(type(node.value) is not str or "%" not in node.value, where, node)

    def test_operators(self):
        for where, node in nodes(ast.BinOp):
            self.holds(not isinstance(node.op, (ast.Div, ast.MatMult)), where, node)
            self.holds(not isinstance(node.op, ast.Pow) or isinstance(node.right, ast.Constant), where, node)
        for where, node in nodes(ast.Compare):
            for operator, right in zip(node.ops, node.comparators):
                plain = isinstance(right, ast.Constant) and (right.value is None or isinstance(right.value, bool))
                self.holds(plain or not isinstance(operator, (ast.Is, ast.IsNot)), where, node)

    def test_imports(self):
        defined = {path.stem: {node.name for node in tree.body if isinstance(node, (ast.FunctionDef, ast.ClassDef))}
                   | {node.targets[0].id for node in tree.body if isinstance(node, ast.Assign)}
                   for path, tree in trees()}
        drawn = {stem: set() for stem in defined}
        for where, node in nodes(ast.ImportFrom):
            package, stem = node.module.split(".")
            self.holds(package == "manyhandsdesk" and node.level == 0 and stem in defined, where, node)
            for alias in node.names:
                self.holds(alias.asname is None and alias.name in defined[stem], where, node)
            drawn[where[:-3]].add(stem)
        while drawn:
            free = [stem for stem in drawn if not drawn[stem]]
            self.assertTrue(free, f"files that draw from one another: {drawn}")
            drawn = {stem: drawn[stem] - set(free) for stem in drawn if stem not in free}

    def test_top_of_a_file(self):
        for path, tree in trees():
            bound = []
            for node in tree.body:
                if isinstance(node, (ast.FunctionDef, ast.ClassDef)):
                    bound.append(node.name)
                elif isinstance(node, ast.ImportFrom):
                    bound += [alias.name for alias in node.names]
                elif isinstance(node, ast.Assign):
                    ast.literal_eval(node.value)
                    bound.append(node.targets[0].id)
                else:
                    self.holds(node is tree.body[0] and isinstance(node, ast.Expr), path.name, node)
            self.assertEqual(len(bound), len(set(bound)), path.name)

    def test_names(self):
        for path, tree in trees():
            tops = {name.name for node in tree.body if isinstance(node, ast.ImportFrom) for name in node.names}
            tops |= {node.name for node in tree.body if isinstance(node, ast.ClassDef)}
            for node in ast.walk(tree):
                if isinstance(node, ast.Name) and isinstance(node.ctx, ast.Store) or isinstance(node, ast.arg):
                    name = node.id if isinstance(node, ast.Name) else node.arg
                    self.holds(name not in PYTHONS_OWN | tops and re.match("[A-Za-z]", name), path.name, node)
                if isinstance(node, ast.Name) and isinstance(node.ctx, ast.Load):
                    self.holds(node.id not in PYTHONS_OWN or node.id in OWN_NAMES, path.name, node)
                    self.holds(node.id not in UNUSED_NAMES, path.name, node)
                if isinstance(node, ast.Attribute):
                    self.holds(node.attr not in UNUSED_NAMES, path.name, node)
                if isinstance(node, (ast.FunctionDef, ast.ClassDef)):
                    self.holds(node.name == "__init__" or re.match("[A-Za-z]", node.name), path.name, node)
                    self.holds(node.name not in UNUSED_NAMES | (OWN_NAMES - METHODS), path.name, node)

    def test_methods_and_values(self):
        methods = {node.name for where, owner in nodes(ast.ClassDef) for node in owner.body
                   if isinstance(node, ast.FunctionDef)}
        values = {node.attr for where, node in nodes(ast.Attribute) if isinstance(node.ctx, ast.Store)}
        self.assertEqual(methods & values, set())
        pythons = {name for kind in (str, int, list, dict, set, bytes, tuple) for name in dir(kind)}
        self.assertEqual(values & pythons, set())
        self.assertEqual(methods & pythons - METHODS - {"__init__"}, set())
        for where, node in nodes(ast.Call):
            if isinstance(node.func, ast.Attribute):
                self.holds(node.func.attr in METHODS | methods, where, node)

    def test_walked_at_once(self):
        for path, tree in trees():
            walked = {id(node.iter) for node in ast.walk(tree) if isinstance(node, (ast.For, ast.comprehension))}
            for node in ast.walk(tree):
                if isinstance(node, ast.Call) and isinstance(node.func, ast.Name) and node.func.id in WALKED_AT_ONCE:
                    self.holds(id(node) in walked, path.name, node)


if __name__ == "__main__":
    unittest.main()
