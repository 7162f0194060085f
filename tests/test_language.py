"""Of the rules for the package's code, those that a walk through its files can see."""
import ast
import builtins
import pathlib
import re
import unittest

PACKAGE = pathlib.Path(__file__).resolve().parent.parent / "icepenalties"

NODES = set("""Module Expr Constant Name Load Store FunctionDef ClassDef arguments arg Return Assign AugAssign If While
For Break Continue Pass Raise Try ExceptHandler Call Attribute Subscript Slice List Tuple Dict ListComp comprehension
BinOp Add Sub Mult FloorDiv Mod UnaryOp USub Not BoolOp And Or Compare Eq NotEq Lt LtE Gt GtE In NotIn Is IsNot IfExp
Lambda keyword""".split())

OWN_NAMES = set("""len range enumerate zip min max sum abs sorted reversed int str bool list tuple dict set isinstance
any all divmod NotImplementedError ValueError KeyError""".split())

METHODS = set("""append clear copy count extend find get index insert items join keys pop remove replace reverse
setdefault split update values""".split())

FORBIDDEN_WORDS = re.compile(r"\b(type|typing|enum|Enum|Flag|Generic|Protocol|ABC|namedtuple|NamedTuple)\b"
                             r"|dataclass|overload|contextmanager")


class Language(unittest.TestCase):

    def setUp(self):
        self.texts = {path.name: path.read_text("ascii") for path in sorted(PACKAGE.glob("*.py"))}
        self.trees = {name: ast.parse(text) for name, text in self.texts.items()}

    def nodes(self, *kinds):
        return [node for tree in self.trees.values() for node in ast.walk(tree) if isinstance(node, kinds)]

    def test_the_package_holds_python_files_alone(self):
        self.assertEqual([path.name for path in sorted(PACKAGE.iterdir()) if path.name != "__pycache__"],
                         ["__init__.py", "games.py"])

    def test_signs_and_lengths_of_lines_and_files(self):
        for name, text in self.texts.items():
            self.assertRegex(text, r"\A[ -~\n]*\Z", name)
            self.assertIsNone(FORBIDDEN_WORDS.search(text), name)
            self.assertLessEqual(len(text.splitlines()), 400, name)
            self.assertLessEqual(max(len(line) for line in text.splitlines()), 120, name)

    def test_functions_are_short_and_plain(self):
        for node in self.nodes(ast.FunctionDef):
            self.assertLessEqual(node.end_lineno - node.lineno + 1, 40, node.name)
            self.assertFalse(node.decorator_list or node.args.vararg or node.args.kwarg or node.args.kwonlyargs)

    def test_only_the_part_of_the_language_that_is_used(self):
        used = {node.__class__.__name__ for node in self.nodes(ast.AST)}
        self.assertEqual(used - NODES, set())
        for node in self.nodes(ast.Constant):
            self.assertIn(node.value.__class__, (int, str, bool, type(None)))
        for node in self.nodes(ast.Assign):
            self.assertEqual([target.__class__ for target in node.targets if len(node.targets) == 1
                              and isinstance(target, (ast.Name, ast.Attribute, ast.Subscript))],
                             [node.targets[0].__class__])

    def test_nothing_is_imported(self):
        self.assertEqual(self.nodes(ast.Import, ast.ImportFrom), [])

    def test_only_names_of_python_s_own_that_are_free(self):
        read = {node.id for node in self.nodes(ast.Name)}
        self.assertEqual((read & set(dir(builtins))) - OWN_NAMES, set())
        bound = {node.id for node in self.nodes(ast.Name) if isinstance(node.ctx, ast.Store)}
        bound |= {node.arg for node in self.nodes(ast.arg)}
        bound |= {node.name for node in self.nodes(ast.FunctionDef, ast.ClassDef)} - {"__init__"}
        self.assertEqual(bound & set(dir(builtins)), set())
        self.assertEqual([name for name in bound if name.startswith("_")], [])

    def test_methods_of_python_s_own_values(self):
        own = {node.name for node in self.nodes(ast.FunctionDef)}
        called = {node.func.attr for node in self.nodes(ast.Call) if isinstance(node.func, ast.Attribute)}
        self.assertEqual(called - own - METHODS, set())

    def test_no_name_is_a_method_and_a_value(self):
        methods = {member.name for node in self.nodes(ast.ClassDef) for member in node.body
                   if isinstance(member, ast.FunctionDef)}
        values = {node.attr for node in self.nodes(ast.Attribute) if isinstance(node.ctx, ast.Store)}
        self.assertEqual(methods & values, set())
        of_python = {name for one in ("", 0, [], (), {}, set(), b"") for name in dir(one)}
        self.assertEqual((methods | values) & of_python - {"__init__"}, set())

    def test_names_of_a_file_s_top_are_bound_once(self):
        for name, tree in self.trees.items():
            bound = [node.name for node in tree.body if isinstance(node, (ast.FunctionDef, ast.ClassDef))]
            bound += [node.targets[0].id for node in tree.body if isinstance(node, ast.Assign)]
            self.assertEqual(len(bound), len(set(bound)), name)


if __name__ == "__main__":
    unittest.main()
