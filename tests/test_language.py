"""The files of the package keep the rules of the language, as far as a look at the code can tell."""

import ast
import builtins
import re
import unittest
from pathlib import Path

FOLDER = Path(__file__).resolve().parent.parent / 'markladder'
FILES = sorted(path for path in FOLDER.rglob('*') if '__pycache__' not in path.parts and path.is_file())
TREES = {path.stem: ast.parse(path.read_text()) for path in FILES}

USABLE = set('''len range enumerate zip min max sum abs sorted reversed int str bool bytes list tuple dict set frozenset
isinstance ord repr any all divmod Exception ValueError TypeError KeyError IndexError LookupError ZeroDivisionError
ArithmeticError OverflowError RuntimeError NotImplementedError AttributeError NotImplemented iter next'''.split())
LIBRARY = {'math': {'gcd', 'lcm', 'isqrt', 'comb', 'perm', 'factorial'},
           'heapq': {'heappush', 'heappop', 'heapify', 'heapreplace', 'heappushpop'}}
METHODS = set('''append clear copy count endswith extend find get index insert isalnum isalpha isdigit islower isspace
isupper items join keys ljust lower lstrip partition pop remove replace reverse rfind rjust rpartition rsplit rstrip
setdefault split splitlines startswith strip update upper values zfill bit_length'''.split())
BARRED = set('''register mro elements open input law version_info with_traceback add_note attrgetter breakpoint builtins
compile copyright credits delattr dir eval exec exit gc getattr globals hasattr help id importlib license locals
methodcaller os quit setattr super type vars sys'''.split())
# Rules that depend on how a statement goes on are kept by not using the statement at all.
UNUSED = (ast.AsyncFunctionDef, ast.AsyncFor, ast.AsyncWith, ast.Await, ast.AugAssign, ast.Global, ast.Nonlocal,
          ast.TryStar, ast.With, ast.Match, ast.Yield, ast.YieldFrom, ast.GeneratorExp, ast.AnnAssign, ast.NamedExpr, ast.Delete,
          ast.Pow, ast.Div, ast.MatMult, ast.Assert, ast.Set, ast.SetComp, ast.Import)


def nodes(kind):
    return [(name, node) for name, tree in TREES.items() for node in ast.walk(tree) if isinstance(node, kind)]


def bound_names(function):
    """The parameters and local variables of a function or lambda."""
    names = [one.arg for one in ast.walk(function) if isinstance(one, ast.arg)]
    return names + [one.id for one in ast.walk(function) if isinstance(one, ast.Name) and isinstance(one.ctx, ast.Store)]


CHANGING = set('append clear extend insert pop remove reverse setdefault update add discard sort'.split())


def root_names(node):
    """The names at the root of what a loop walks, or of what is changed: also through calls, items and choices."""
    if isinstance(node, ast.Name):
        return {node.id}
    if isinstance(node, (ast.Attribute, ast.Subscript, ast.Starred)):
        return root_names(node.value)
    if isinstance(node, ast.IfExp):
        return root_names(node.body) | root_names(node.orelse)
    if isinstance(node, ast.BoolOp):
        return set().union(*[root_names(value) for value in node.values])
    if isinstance(node, ast.Call) and isinstance(node.func, ast.Name) and node.func.id in ('zip', 'enumerate', 'reversed'):
        return set().union(*[root_names(value) for value in node.args])
    if isinstance(node, ast.Call) and isinstance(node.func, ast.Attribute) and node.func.attr in ('items', 'values', 'keys'):
        return root_names(node.func.value)
    return set()


def alike_names(function):
    """For each name of a function the set of the names that may stand for the same list: by a field, by a choice."""
    groups = {}
    for node in ast.walk(function):
        if isinstance(node, ast.Assign) and not isinstance(node.value, ast.Subscript):
            names = root_names(node.value)
            for target in node.targets:
                names = names | (set() if isinstance(target, ast.Subscript) else root_names(target))
            if len(names) > 1:
                joined = set().union(names, *[groups.get(name, set()) for name in names])
                groups.update({name: joined for name in joined})
    return groups


def changed_names(node):
    """The names of what is changed within a node, by its name, an item or a field."""
    names = set()
    for one in ast.walk(node):
        if isinstance(one, ast.Call) and isinstance(one.func, ast.Attribute) and one.func.attr in CHANGING:
            names |= root_names(one.func.value)
        if isinstance(one, (ast.Subscript, ast.Attribute)) and isinstance(one.ctx, (ast.Store, ast.Del)):
            names |= root_names(one)
    return names


def loops_in(function):
    """The pairs of what a loop or a comprehension walks, and of what is within it."""
    for node in ast.walk(function):
        if isinstance(node, ast.For):
            for one in node.body:
                yield node.iter, one
        elif isinstance(node, (ast.ListComp, ast.SetComp, ast.DictComp, ast.GeneratorExp)):
            for one in node.generators:
                yield one.iter, node


def own_variables(node):
    """The variables of a comprehension or a lambda itself."""
    if isinstance(node, ast.Lambda):
        return {one.arg for one in node.args.args}
    return {one.id for part in node.generators for one in ast.walk(part.target) if isinstance(one, ast.Name)}


INNER = (ast.ListComp, ast.SetComp, ast.DictComp, ast.GeneratorExp, ast.Lambda)


class LanguageTest(unittest.TestCase):
    def test_variables_within_comprehensions_are_no_others(self):
        for name, function in nodes(ast.FunctionDef):
            inner = [one for one in ast.walk(function) if isinstance(one, INNER)]
            within = {id(one) for node in inner for one in ast.walk(node)}
            outer = {one.id for one in ast.walk(function)
                     if isinstance(one, ast.Name) and isinstance(one.ctx, ast.Store) and id(one) not in within}
            outer |= {one.arg for one in function.args.args}
            for node in inner:
                for one in ast.walk(node):
                    if one is not node and isinstance(one, INNER):
                        taken = own_variables(one) & (outer | own_variables(node))
                        self.assertFalse(taken, (name, function.name, one.lineno))

    def test_lambdas_stand_on_lines_of_their_own(self):
        lines = [(name, node.lineno) for name, node in nodes(ast.Lambda)]
        self.assertEqual(len(lines), len(set(lines)))

    def test_imports_are_used(self):
        for name, tree in TREES.items():
            used = {node.id for node in ast.walk(tree) if isinstance(node, ast.Name)}
            for node in ast.walk(tree):
                if isinstance(node, ast.ImportFrom):
                    self.assertLessEqual({one.name for one in node.names}, used, name)

    def test_what_a_loop_walks_is_not_changed_in_it(self):
        for name, function in nodes(ast.FunctionDef):
            groups = alike_names(function)
            for walked, within in loops_in(function):
                changed = changed_names(within)
                for one in root_names(walked):
                    self.assertFalse(groups.get(one, {one}) & changed, (name, function.name, within.lineno))

    def test_files(self):
        self.assertTrue(0 < len(FILES) <= 100)
        for path in FILES:
            with self.subTest(path=path.name):
                self.assertRegex(path.name, r'\A(__init__|[a-z][a-z0-9_]*)\.py\Z')
                text = path.read_text(encoding='utf-8')
                self.assertRegex(text, r'\A[\n -~]*\n\Z')
                lines = text.split('\n')
                self.assertTrue(len(lines) <= 400)
                self.assertTrue(all(len(line) <= 120 for line in lines))
                self.assertNotRegex(text, r'_wall|_WallAttr|\(type\)|Meta|metaclass=|dataclass|overload|contextmanager')

    def test_module_level(self):
        for name, tree in TREES.items():
            for index, node in enumerate(tree.body):
                docstring = index == 0 and isinstance(node, ast.Expr) and isinstance(node.value, ast.Constant)
                plain = isinstance(node, ast.Assign) and len(node.targets) == 1 and isinstance(node.targets[0], ast.Name)
                kinds = (ast.ImportFrom, ast.FunctionDef, ast.ClassDef)
                self.assertTrue(docstring or plain or isinstance(node, kinds), (name, node.lineno))
                if plain and isinstance(node.value, ast.Dict):
                    above = {one.name for one in tree.body[:index] if isinstance(one, ast.FunctionDef)}
                    self.assertTrue(all(isinstance(one, ast.Name) and one.id in above for one in node.value.values))
                elif plain:
                    ast.literal_eval(node.value)

    def test_imports(self):
        found = {name: set() for name in TREES}
        for name, node in nodes(ast.ImportFrom):
            self.assertEqual(node.level, 0)
            self.assertTrue(all(one.asname is None for one in node.names))
            if node.module in LIBRARY:
                self.assertTrue({one.name for one in node.names} <= LIBRARY[node.module])
            else:
                module = re.fullmatch(r'markladder\.([a-z_]+)', node.module)[1]
                defined = {one.name for one in TREES[module].body if hasattr(one, 'name')}
                defined |= {one.targets[0].id for one in TREES[module].body if isinstance(one, ast.Assign)}
                self.assertTrue({one.name for one in node.names} <= defined, (name, node.module))
                found[name].add(module)
        done = set()
        while len(done) < len(found):
            ready = {name for name in found if name not in done and found[name] <= done}
            self.assertTrue(ready, 'files import from each other')
            done |= ready

    def test_statements_that_are_not_used(self):
        for kind in UNUSED:
            self.assertEqual([(name, node.lineno) for name, node in nodes(kind) if hasattr(node, 'lineno')], [])
        for name, node in nodes(ast.BinOp):
            self.assertNotIsInstance(node.op, (ast.Pow, ast.Div, ast.MatMult), (name, node.lineno))
        for name, node in nodes(ast.Constant):
            self.assertNotIsInstance(node.value, (float, complex, bytes))
            if isinstance(node.value, str):
                self.assertNotIn('%', node.value)
                self.assertNotRegex(node.value, r'\A__.*__\Z|\._{1,2}\Z')
        for name, node in nodes(ast.Compare):
            for operator, other in zip(node.ops, node.comparators):
                if isinstance(operator, (ast.Is, ast.IsNot)):
                    self.assertIn(getattr(other, 'value', 'none'), (None, True, False), (name, node.lineno))

    def test_own_errors_alone_are_caught(self):
        own = {node.name for node in TREES['errors'].body if isinstance(node, ast.ClassDef)}
        for name, node in nodes(ast.Try):
            self.assertTrue(node.orelse == [], (name, node.lineno))
            for handler in node.handlers:
                self.assertIn(handler.type.id, own, (name, node.lineno))
            for one in node.finalbody:
                # No sign, call or item: an attribute is assigned a name.
                self.assertTrue(isinstance(one, ast.Assign) and isinstance(one.value, ast.Name), (name, node.lineno))
                self.assertTrue(all(isinstance(target, ast.Attribute) for target in one.targets), (name, node.lineno))

    def test_caught_errors_are_asked_for_their_fields(self):
        for name, handler in nodes(ast.ExceptHandler):
            used = [one for one in ast.walk(handler) if isinstance(one, ast.Name) and one.id == handler.name]
            held = [one.value for one in ast.walk(handler) if isinstance(one, ast.Attribute)]
            self.assertTrue(all(one in held for one in used), (name, handler.lineno))

    def test_stars_in_calls_stand_over_names(self):
        for name, node in nodes(ast.Call):
            for one in node.args:
                self.assertTrue(not isinstance(one, ast.Starred) or isinstance(one.value, ast.Name), (name, node.lineno))
            self.assertTrue(all(one.arg is not None for one in node.keywords), (name, node.lineno))

    def test_what_is_reversed(self):
        # Some classes have items.
        for name, node in nodes(ast.Call):
            if isinstance(node.func, ast.Name) and node.func.id == 'reversed':
                inner = node.args[0]
                self.assertTrue(isinstance(inner, ast.Call) and inner.func.id in ('list', 'tuple', 'sorted', 'range'),
                                (name, node.lineno))

    def test_functions(self):
        for name, node in nodes((ast.FunctionDef, ast.ClassDef)):
            if isinstance(node, ast.FunctionDef):
                self.assertTrue(node.end_lineno - node.lineno < 40, (name, node.name))
                self.assertTrue(node.args.kwarg is None)
            for decorator in node.decorator_list:
                self.assertIn(decorator.id, ('property', 'classmethod'))
            self.assertTrue(ast.get_docstring(node) or node.name.startswith('__'), (name, node.name))

    def test_names(self):
        taken = set(dir(builtins)) | BARRED
        for name, tree in TREES.items():
            imported = {one.name for node in ast.walk(tree) if isinstance(node, ast.ImportFrom) for one in node.names}
            defined = {node.name for node in tree.body if hasattr(node, 'name')}
            self.assertFalse((imported | defined) & taken, name)
            for node in ast.walk(tree):
                if isinstance(node, (ast.FunctionDef, ast.Lambda)):
                    self.assertFalse(set(bound_names(node)) & (imported | defined | taken), (name, node.lineno))
                if isinstance(node, ast.Attribute):
                    self.assertNotIn(node.attr, BARRED)

    def test_builtins(self):
        names = set(dir(builtins))
        for name, node in nodes(ast.Name):
            if node.id in names and node.id not in ('property', 'classmethod'):
                self.assertIn(node.id, USABLE, (name, node.lineno))

    def test_methods(self):
        own = {node.name for _, node in nodes(ast.FunctionDef)}
        for name, node in nodes(ast.Call):
            if isinstance(node.func, ast.Attribute):
                self.assertIn(node.func.attr, METHODS | own, (name, node.lineno))
                self.assertEqual(node.keywords, [])

    def test_sets_are_sorted_or_counted(self):
        held = []
        for _, node in nodes(ast.Call):
            if isinstance(node.func, ast.Name) and node.func.id in ('sorted', 'len'):
                held.extend(id(one) for one in node.args)
        for name, node in nodes(ast.Call):
            if isinstance(node.func, ast.Name) and node.func.id in ('set', 'frozenset'):
                self.assertTrue(id(node) in held, (name, node.lineno))

    def test_what_is_iterated_at_once(self):
        held = []
        for _, node in nodes((ast.For, ast.comprehension)):
            held.append(id(node.iter))
        for _, node in nodes(ast.Call):
            held.extend(id(one) for one in node.args)
        for name, node in nodes(ast.Call):
            if isinstance(node.func, ast.Name) and node.func.id in ('zip', 'enumerate', 'reversed', 'range'):
                self.assertTrue(id(node) in held, (name, node.lineno))

    def test_own_calls_with_what_they_take(self):
        functions = {}
        for _, tree in TREES.items():
            functions.update({node.name: node for node in tree.body if isinstance(node, ast.FunctionDef)})
        for name, node in nodes(ast.Call):
            if isinstance(node.func, ast.Name) and node.func.id in functions:
                takes = functions[node.func.id].args
                self.assertIn(len(node.args) + len(node.keywords), (len(takes.args), len(takes.args + takes.kwonlyargs)),
                              (name, node.lineno))


if __name__ == "__main__":
    unittest.main()
