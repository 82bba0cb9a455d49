"""The package's own files keep to the small part of Python that the project asks for (rules L1 to L28).

This sees what can be seen plainly in the written code; the rules themselves say more.
"""

import ast
import builtins
import re
import unittest
from pathlib import Path

PACKAGE = Path(__file__).resolve().parent.parent / 'plantshand'
FILES = sorted(PACKAGE.rglob('*.py'))

OWN_NAMES = set('''len range enumerate zip min max sum abs sorted reversed int str bool list tuple dict set frozenset
isinstance ord repr any all divmod Exception ValueError TypeError KeyError IndexError LookupError ZeroDivisionError
ArithmeticError OverflowError RuntimeError NotImplementedError AttributeError StopIteration'''.split())
METHODS = set('''append clear copy count endswith extend find get index insert isalnum isalpha isdigit islower isspace
isupper items join keys ljust lower lstrip partition pop remove replace reverse rfind rjust rpartition rsplit rstrip
setdefault split splitlines startswith strip update upper values zfill bit_length'''.split())
WORDS = set('''type typing typing_extensions enum Enum IntEnum StrEnum Flag IntFlag Generic Protocol ABC ABCMeta
namedtuple NamedTuple TypedDict TYPE_CHECKING abstractmethod'''.split())
BANNED = set('''register mro elements open input version_info with_traceback add_note attrgetter breakpoint builtins
compile copyright credits delattr dir eval exec exit gc getattr globals hasattr help id importlib license locals methodcaller
os quit setattr super vars sys'''.split())
WALKED = {'zip', 'enumerate', 'reversed', 'range', 'items', 'keys', 'values'}
WALKERS = {'list', 'tuple', 'dict', 'sorted', 'sum', 'any', 'all', 'enumerate', 'zip', 'min', 'max'}
STATEMENTS = (ast.Assign, ast.AugAssign, ast.If, ast.While, ast.For, ast.Return, ast.Break, ast.Continue, ast.Pass,
              ast.Raise, ast.Try, ast.Expr, ast.FunctionDef, ast.ClassDef, ast.ImportFrom)
EXPRESSIONS = (ast.Constant, ast.Name, ast.List, ast.Tuple, ast.Dict, ast.Set, ast.BinOp, ast.UnaryOp, ast.Compare,
               ast.BoolOp, ast.IfExp, ast.Call, ast.Attribute, ast.Subscript, ast.Slice, ast.ListComp, ast.Lambda,
               ast.JoinedStr, ast.FormattedValue)
PLAIN = (ast.Constant, ast.List, ast.Tuple, ast.Dict, ast.UnaryOp, ast.USub, ast.Name, ast.Load)
PYTHONS_OWN = set().union(*[dir(value) for value in ('', 0, [], {}, set(), b'', ())])


def tree_of(path):
    return ast.parse(path.read_text(encoding='utf-8'))


def called(node):
    if isinstance(node, ast.Call) and isinstance(node.func, ast.Name):
        return node.func.id
    if isinstance(node, ast.Call) and isinstance(node.func, ast.Attribute):
        return node.func.attr
    return None


def top_names(tree):
    names = []
    for node in tree.body:
        if isinstance(node, (ast.FunctionDef, ast.ClassDef)):
            names.append(node.name)
        if isinstance(node, ast.Assign):
            names.append(node.targets[0].id)
    return names


def imported(tree):
    return [alias.name for node in tree.body if isinstance(node, ast.ImportFrom) for alias in node.names]


def drawn_from(tree):
    return [node.module.split('.')[1] for node in tree.body if isinstance(node, ast.ImportFrom)]


class Language(unittest.TestCase):
    def each_node(self, kinds):
        for path in FILES:
            for node in ast.walk(tree_of(path)):
                if isinstance(node, kinds):
                    yield f'{path.name}:{getattr(node, "lineno", 0)}', node

    def test_files(self):
        self.assertIn(PACKAGE / '__init__.py', FILES)
        for path in PACKAGE.rglob('*'):
            if '__pycache__' in path.parts:
                continue
            self.assertIn(path, FILES)
            self.assertRegex(path.stem, '^[a-z][a-z0-9_]*$|^__init__$')
            self.assertFalse(path.stem in dir(builtins) or path.stem in WORDS or path.stem.startswith('test'))

    def test_signs_and_sizes(self):
        for path in FILES:
            text = path.read_bytes().decode('ascii')
            self.assertRegex(text, r'\A[\n -~]*\Z', path.name)
            self.assertLessEqual(len(text.splitlines()), 399, path.name)
            self.assertLessEqual(max([len(line) for line in text.splitlines()]), 120, path.name)
        for place, node in self.each_node(ast.FunctionDef):
            self.assertLessEqual(node.end_lineno - node.lineno + 1, 40, place)

    def test_words(self):
        for path in FILES:
            text = path.read_text(encoding='utf-8')
            self.assertEqual(WORDS & set(re.findall('[A-Za-z0-9_]+', text)), set(), path.name)
            self.assertIsNone(re.search('dataclass|overload|contextmanager', text), path.name)

    def test_statements_and_expressions(self):
        for place, node in self.each_node((ast.stmt, ast.expr)):
            self.assertIsInstance(node, STATEMENTS + EXPRESSIONS, place)
            if isinstance(node, ast.Assign):
                self.assertEqual(len(node.targets), 1, place)
            if isinstance(node, (ast.For, ast.While)):
                self.assertEqual(node.orelse, [], place)
            if isinstance(node, ast.ListComp):
                self.assertEqual(len(node.generators), 1, place)
                self.assertLessEqual(len(node.generators[0].ifs), 1, place)
            if isinstance(node, ast.Constant):
                self.assertIn(node.value.__class__, (int, str, bool, type(None)), place)
                self.assertNotIn('%', str(node.value), place)
            if isinstance(node, ast.BinOp):
                self.assertNotIsInstance(node.op, (ast.Div, ast.Pow, ast.MatMult), place)
            if isinstance(node, ast.Expr):
                self.assertTrue(isinstance(node.value, (ast.Call, ast.Constant)), place)
            if isinstance(node, ast.Compare):
                for operator, right in zip(node.ops, node.comparators):
                    if isinstance(operator, (ast.Is, ast.IsNot)):
                        self.assertIsInstance(right, ast.Constant, place)

    def test_the_top_of_a_module(self):
        for path in FILES:
            tree = tree_of(path)
            self.assertIsNotNone(ast.get_docstring(tree), path.name)
            names = top_names(tree) + imported(tree)
            self.assertEqual(len(names), len(set(names)), path.name)
            for node in tree.body[1:]:
                self.assertIsInstance(node, (ast.ImportFrom, ast.FunctionDef, ast.ClassDef, ast.Assign), path.name)
                if isinstance(node, ast.Assign):
                    for part in ast.walk(node.value):
                        self.assertIsInstance(part, PLAIN, path.name)

    def test_imports(self):
        for place, node in self.each_node((ast.Import, ast.ImportFrom)):
            self.assertIsInstance(node, ast.ImportFrom, place)
            self.assertEqual((node.level, node.module.split('.')[0]), (0, 'plantshand'), place)
            source = PACKAGE / (node.module.split('.')[1] + '.py')
            for alias in node.names:
                self.assertIsNone(alias.asname, place)
                self.assertIn(alias.name, top_names(tree_of(source)), place)
        self.assertEqual(drawn_from(tree_of(PACKAGE / '__init__.py')), [])

    def test_no_two_files_draw_from_one_another(self):
        left = {path.stem: set(drawn_from(tree_of(path))) for path in FILES}
        while left:
            free = [name for name in left if not left[name] & set(left)]
            self.assertTrue(free, left)
            for name in free:
                left.pop(name)

    def test_the_interface_stands_once(self):
        having = [path.name for path in FILES if 'answers' in top_names(tree_of(path))]
        self.assertEqual(having, ['desk.py'])

    def test_functions_and_classes(self):
        for place, node in self.each_node((ast.FunctionDef, ast.ClassDef)):
            self.assertEqual(node.decorator_list, [], place)
            if isinstance(node, ast.FunctionDef):
                self.assertIsNone(node.returns, place)
                self.assertFalse(node.args.vararg or node.args.kwarg or node.args.kwonlyargs or node.args.posonlyargs,
                                 place)
            else:
                self.assertLessEqual(len(node.bases), 1, place)
                self.assertEqual(node.col_offset, 0, place)
                for part in node.body:
                    self.assertIsInstance(part, (ast.FunctionDef, ast.Expr), place)
        for place, node in self.each_node(ast.arg):
            self.assertIsNone(node.annotation, place)

    def test_names(self):
        for path in FILES:
            tree = tree_of(path)
            top = set(top_names(tree)) | set(imported(tree))
            classes = {node.name for node in tree.body if isinstance(node, ast.ClassDef)}
            bound = {node.arg for node in ast.walk(tree) if isinstance(node, ast.arg)}
            named = [node for node in ast.walk(tree) if isinstance(node, ast.Name)]
            bound |= {node.id for node in named if isinstance(node.ctx, ast.Store)}
            inner = bound - set(top_names(tree))
            self.assertEqual(inner & (set(dir(builtins)) | set(imported(tree)) | classes | BANNED), set(), path.name)
            read = {node.id for node in named}
            self.assertEqual(read - bound - top - OWN_NAMES, set(), path.name)
            for name in read | bound | top:
                self.assertRegex(name, '^[A-Za-z][A-Za-z0-9_]*$', path.name)

    def test_attributes(self):
        stored, methods = set(), set()
        for place, node in self.each_node((ast.Attribute, ast.ClassDef)):
            if isinstance(node, ast.ClassDef):
                methods |= {part.name for part in node.body if isinstance(part, ast.FunctionDef)}
            elif isinstance(node.ctx, ast.Store):
                stored.add(node.attr)
        self.assertEqual(stored & (methods | PYTHONS_OWN | BANNED), set())
        for place, node in self.each_node(ast.Call):
            if isinstance(node.func, ast.Attribute):
                self.assertIn(node.func.attr, METHODS | methods, place)
        for place, node in self.each_node(ast.Attribute):
            self.assertIn(node.attr, METHODS | methods | stored, place)

    def test_walked_on_the_spot(self):
        fine = set()
        for place, node in self.each_node((ast.For, ast.comprehension)):
            fine.add(ast.dump(node.iter, include_attributes=True))
        for place, node in self.each_node(ast.Call):
            if called(node) in WALKERS and node.args:
                fine.add(ast.dump(node.args[0], include_attributes=True))
        for place, node in self.each_node(ast.Call):
            if called(node) in WALKED:
                self.assertIn(ast.dump(node, include_attributes=True), fine, place)


if __name__ == '__main__':
    unittest.main()
