"""The form of the package's files: the rules of LANGUAGE.md that a look at the code can tell."""

import ast
import builtins
import pathlib
import re
import unittest

PACKAGE = pathlib.Path(__file__).resolve().parent.parent / 'followrows'
LIBRARY = {
    'heapq': {'heappush', 'heappop', 'heapify', 'heapreplace', 'heappushpop'},
    'math': {'gcd', 'lcm', 'isqrt', 'comb', 'perm', 'factorial'},
    'itertools': {'product', 'combinations', 'permutations', 'chain', 'accumulate', 'pairwise', 'islice', 'zip_longest'},
    'collections': {'defaultdict', 'deque'},
}
BUILTINS = set("""
    len range enumerate zip min max sum abs sorted reversed int str bool list tuple dict set isinstance ord repr any all
    divmod pow iter next map getattr hasattr setattr type super property staticmethod classmethod Exception ValueError
    TypeError KeyError IndexError LookupError ZeroDivisionError ArithmeticError OverflowError RuntimeError
    NotImplementedError AttributeError StopIteration NotImplemented object
""".split())
METHODS = set("""
    append clear copy count endswith extend find get index insert isalnum isalpha isdigit islower isspace isupper items
    join keys ljust lower lstrip partition pop remove replace reverse rfind rjust rpartition rsplit rstrip setdefault
    split splitlines startswith strip update upper values zfill bit_length title capitalize swapcase casefold center
    expandtabs removeprefix removesuffix rindex isascii isdecimal isnumeric istitle isidentifier isprintable sort add
    discard appendleft popleft extendleft rotate from_iterable format __init__
""".split())
MODULE_LEVEL = (ast.ImportFrom, ast.FunctionDef, ast.ClassDef, ast.Assign)
NOWHERE = (ast.Import, ast.AsyncFunctionDef, ast.AsyncFor, ast.AsyncWith, ast.Await, ast.Div, ast.MatMult)
BARRED_NAMES = set("""
    register mro elements open input law version_info with_traceback add_note attrgetter breakpoint builtins compile
    copyright credits delattr dir eval exec exit gc globals help id importlib license locals methodcaller os quit vars
    sys format hash map next round
""".split())
BARRED_WORDS = re.compile(r'\b(typing|typing_extensions|enum|Enum|IntEnum|Flag|Generic|Protocol|ABC|namedtuple)\b')


def files():
    """Return the list of the package's files."""
    return sorted(path for path in PACKAGE.rglob('*') if path.is_file() and '__pycache__' not in path.parts)


def trees():
    """Return the list of the pairs of a file's module name and its parsed code."""
    return [('followrows.' + path.stem, ast.parse(path.read_text(encoding='ascii'))) for path in files()]


def is_docstring(node):
    """Return whether a statement is a string alone."""
    return isinstance(node, ast.Expr) and isinstance(node.value, ast.Constant) and isinstance(node.value.value, str)


def defined(tree):
    """Return the list of the names that a file gives a meaning at module level, imports left out."""
    names = []
    for node in tree.body:
        if isinstance(node, (ast.FunctionDef, ast.ClassDef)):
            names.append(node.name)
        elif isinstance(node, ast.Assign):
            names.extend(target.id for target in node.targets)
    return names


def imported(tree):
    """Return the list of the pairs of a module and a name that a file imports."""
    return [(node.module, alias.name) for node in ast.walk(tree) if isinstance(node, ast.ImportFrom)
            for alias in node.names]


class Form(unittest.TestCase):

    def test_files(self):
        for path in files():
            with self.subTest(path.name):
                self.assertRegex(path.name, r'^(__init__|__main__|[a-z][a-z0-9_]*)\.py$')
                text = path.read_text(encoding='utf-8')
                self.assertRegex(text, r'\A[ -~\n]*\Z')
                self.assertLessEqual(len(text.split('\n')), 400)
                self.assertLessEqual(max(len(line) for line in text.split('\n')), 120)
                self.assertIsNone(BARRED_WORDS.search(text))

    def test_module_level(self):
        for name, tree in trees():
            with self.subTest(name):
                rest = tree.body[1:] if tree.body and is_docstring(tree.body[0]) else tree.body
                for node in rest:
                    self.assertIsInstance(node, MODULE_LEVEL)
                names = defined(tree) + [word for _, word in imported(tree)]
                self.assertEqual(len(names), len(set(names)))
                for word in names:
                    self.assertFalse(hasattr(builtins, word))

    def test_imports(self):
        known = {name: defined(tree) for name, tree in trees()}
        for name, tree in trees():
            for module, word in imported(tree):
                with self.subTest(name, imports=word):
                    self.assertIn(word, known.get(module) or LIBRARY.get(module, ()))

    def test_imports_go_round_nowhere(self):
        needs = {name: {module for module, _ in imported(tree) if module not in LIBRARY} for name, tree in trees()}
        while needs:
            free = [name for name in needs if not needs[name] & set(needs)]
            self.assertTrue(free, needs)
            needs = {name: needs[name] for name in needs if name not in free}

    def test_functions(self):
        for name, tree in trees():
            for node in ast.walk(tree):
                if isinstance(node, ast.FunctionDef):
                    with self.subTest(name, function=node.name):
                        self.assertLessEqual(node.end_lineno - node.lineno + 1, 40)
                        self.assertTrue(ast.get_docstring(node) or node.name.startswith('__'))

    def test_statements_and_values(self):
        for name, tree in trees():
            for node in ast.walk(tree):
                with self.subTest(name, line=getattr(node, 'lineno', None)):
                    self.assertNotIsInstance(node, NOWHERE)
                    if isinstance(node, ast.Constant):
                        self.assertNotIsInstance(node.value, (float, complex))
                        self.assertFalse(isinstance(node.value, str) and '%' in node.value)

    def test_is_and_powers(self):
        for name, tree in trees():
            for node in ast.walk(tree):
                if isinstance(node, ast.Compare) and any(isinstance(op, (ast.Is, ast.IsNot)) for op in node.ops):
                    self.assertIsInstance(node.comparators[0], ast.Constant, name)
                    self.assertIn(repr(node.comparators[0].value), ('None', 'True', 'False'), name)
                if isinstance(node, ast.BinOp) and isinstance(node.op, ast.Pow):
                    self.assertIsInstance(node.right, ast.Constant, name)

    def test_names_that_are_imported_are_not_given_to_others(self):
        for name, tree in trees():
            taken = {word for _, word in imported(tree)}
            taken |= {node.name for node in tree.body if isinstance(node, ast.ClassDef)}
            for node in ast.walk(tree):
                if isinstance(node, ast.Name) and isinstance(node.ctx, ast.Store):
                    self.assertNotIn(node.id, taken, name)
                if isinstance(node, ast.arg):
                    self.assertNotIn(node.arg, taken, name)

    def test_sets_stand_where_they_may(self):
        for name, tree in trees():
            parents = {child: node for node in ast.walk(tree) for child in ast.iter_child_nodes(node)}
            for node in ast.walk(tree):
                made = isinstance(node, ast.Call) and getattr(node.func, 'id', '') in ('set', 'frozenset')
                if made or isinstance(node, (ast.Set, ast.SetComp)):
                    above = parents[node]
                    self.assertIsInstance(above, ast.Call, name)
                    self.assertIn(above.func.id, ('sorted', 'len'), name)

    def test_classes(self):
        for name, tree in trees():
            for node in ast.walk(tree):
                if isinstance(node, (ast.FunctionDef, ast.ClassDef)):
                    decorators = [ast.unparse(decorator) for decorator in node.decorator_list]
                    self.assertIn(decorators, ([], ['property']), name)
        classes = [node for _, tree in trees() for node in ast.walk(tree) if isinstance(node, ast.ClassDef)]
        methods = [member for node in classes for member in node.body if isinstance(member, ast.FunctionDef)]
        properties = {member.name for member in methods if member.decorator_list}
        others = {member.name for member in methods if not member.decorator_list}
        stored = {node.attr for _, tree in trees() for node in ast.walk(tree)
                  if isinstance(node, ast.Attribute) and isinstance(node.ctx, ast.Store)}
        read = {node.attr for _, tree in trees() for node in ast.walk(tree)
                if isinstance(node, ast.Attribute) and isinstance(node.ctx, ast.Load)}
        self.assertEqual((properties & others) | (properties & stored) | (others & stored), set())
        self.assertEqual(read - stored - others - properties - METHODS, set())

    def test_barred_names(self):
        for name, tree in trees():
            for node in ast.walk(tree):
                for word in (getattr(node, 'id', None), getattr(node, 'arg', None), getattr(node, 'attr', None),
                             getattr(node, 'name', None)):
                    self.assertNotIn(word, BARRED_NAMES, name)

    def test_builtins_and_methods(self):
        own = {node.name for _, tree in trees() for node in ast.walk(tree) if isinstance(node, ast.FunctionDef)}
        for name, tree in trees():
            for node in ast.walk(tree):
                if isinstance(node, ast.Name) and hasattr(builtins, node.id):
                    self.assertIn(node.id, BUILTINS, name)
                    self.assertIsInstance(node.ctx, ast.Load, name)
                if isinstance(node, ast.Call) and isinstance(node.func, ast.Attribute):
                    self.assertIn(node.func.attr, METHODS | own, name)
                if isinstance(node, ast.arg):
                    self.assertFalse(hasattr(builtins, node.arg), name)


if __name__ == '__main__':
    unittest.main()
