"""What of the rules for the package's code can be seen in its files: sizes, signs, imports and constructs."""

import ast
import builtins
import pathlib
import re
import unittest

FOLDER = pathlib.Path(__file__).resolve().parent.parent / 'ascalls'
STATEMENTS = (ast.FunctionDef, ast.ClassDef, ast.Assign, ast.If, ast.While, ast.For, ast.Return, ast.Break, ast.Continue,
              ast.Pass, ast.Raise, ast.Assert, ast.Delete, ast.Try, ast.Expr, ast.ImportFrom, ast.With)
# A test of examples keeps its last result as the builtin _.
ALL_BUILTINS = set(dir(builtins)) - {'_'}
BUILTINS = ('len', 'bool', 'range', 'enumerate', 'zip', 'sum', 'sorted', 'int', 'str', 'list', 'tuple', 'dict', 'set', 'isinstance', 'any',
            'all', 'iter', 'super', 'ValueError', 'NotImplemented', 'property', 'classmethod', 'staticmethod')
METHODS = ('append', 'extend', 'get', 'index', 'join', 'ljust', 'partition', 'pop', 'replace', 'rjust', 'setdefault', 'split')
FREE = ('__init__', '__enter__', '__exit__', '__call__', '__iadd__')
CHANGING = ('append', 'clear', 'extend', 'insert', 'pop', 'remove', 'reverse', 'setdefault', 'update', 'sort', 'add', 'discard')
BARRED = ('type', 'typing', 'enum', 'Enum', 'Flag', 'Generic', 'Protocol', 'ABC', 'namedtuple', 'dataclass', 'overload',
          'contextmanager', 'Meta', '_wall', '_WallAttr')
BARRED_NAMES = ('register', 'mro', 'elements', 'open', 'input', 'law', 'compile', 'dir', 'eval', 'exec', 'exit', 'gc', 'help',
                'id', 'os', 'sys', 'vars', 'quit', 'license', 'credits', 'globals', 'locals')


def files():
    """Each file of the package, with its text and its tree."""
    for path in sorted(FOLDER.glob('*.py')):
        text = path.read_text(encoding='utf-8')
        yield path.name, text, ast.parse(text)


def nodes(tree, *kinds):
    """The nodes of these kinds."""
    return [node for node in ast.walk(tree) if isinstance(node, kinds)]


def own_names(tree):
    """All names that are bound in a file: functions, classes, parameters, variables."""
    names = [node.name for node in nodes(tree, ast.FunctionDef, ast.ClassDef)]
    names += [node.arg for node in nodes(tree, ast.arg)]
    names += [node.id for node in nodes(tree, ast.Name) if isinstance(node.ctx, ast.Store)]
    return names


def keys_of(node):
    """The names of what an expression is, may be, or goes over: variables, and attributes with a dot before them."""
    if isinstance(node, ast.Name):
        return {node.id}
    if isinstance(node, ast.Attribute):
        return {'.' + node.attr}
    if isinstance(node, ast.Subscript):
        return set() if isinstance(node.slice, ast.Slice) else keys_of(node.value)
    if isinstance(node, ast.IfExp):
        return keys_of(node.body) | keys_of(node.orelse)
    if isinstance(node, ast.BoolOp):
        return set().union(*map(keys_of, node.values))
    if isinstance(node, ast.Call) and isinstance(node.func, ast.Name) and node.func.id in ('zip', 'enumerate', 'reversed'):
        return set().union(*map(keys_of, node.args))
    if isinstance(node, ast.Call) and isinstance(node.func, ast.Attribute) and node.func.attr in ('items', 'keys', 'values'):
        return keys_of(node.func.value)
    return set()


def with_other_names(function, names):
    """These names of a function, and all that may be the same by plain assignments."""
    pairs = [(keys_of(target), keys_of(node.value)) for node in nodes(function, ast.Assign) for target in node.targets]
    found = set(names)
    for _ in pairs:
        for targets, values in pairs:
            if (targets | values) & found and targets and values:
                found |= targets | values
    return found


def changed_in(node):
    """The names of what a statement changes: items that are assigned or deleted, and lists and dicts that change."""
    found = set()
    for part in nodes(node, ast.Subscript):
        if not isinstance(part.ctx, ast.Load):
            found |= keys_of(part.value)
    for part in nodes(node, ast.Call):
        if isinstance(part.func, ast.Attribute) and part.func.attr in CHANGING:
            found |= keys_of(part.func.value)
    return found


def resolved(trees, name, called):
    """The (file, function) pairs that a call in this file may mean: a function by its name, or all methods of a name."""
    if isinstance(called, ast.Attribute):
        return [(other, node) for other, tree in trees.items() for part in nodes(tree, ast.ClassDef) for node in part.body
                if isinstance(node, ast.FunctionDef) and node.name == called.attr]
    if not isinstance(called, ast.Name):
        return []
    for node in trees[name].body:
        if isinstance(node, ast.FunctionDef) and node.name == called.id:
            return [(name, node)]
        if isinstance(node, ast.ClassDef) and node.name == called.id:
            return [(name, part) for part in node.body if isinstance(part, ast.FunctionDef) and part.name == '__init__']
        if isinstance(node, ast.ImportFrom) and called.id in [alias.name for alias in node.names]:
            return resolved(trees, node.module.partition('.')[2] + '.py', called)
    return []


def run_by_operators(trees):
    """The (file, function) pairs of all operators and properties, and of all that they may call."""
    waiting = []
    for name, tree in trees.items():
        for part in nodes(tree, ast.ClassDef):
            for node in part.body:
                if isinstance(node, ast.FunctionDef):
                    words = [getattr(word, 'id', None) for word in node.decorator_list]
                    is_operator = node.name.startswith('__') and node.name not in FREE
                    if 'property' in words or is_operator:
                        waiting.append((name, node))
    found = {}
    while waiting:
        name, node = waiting.pop()
        if node not in found:
            found[node] = name
            for call in nodes(node, ast.Call):
                waiting.extend(resolved(trees, name, call.func))
    return [(name, node) for node, name in found.items()]


def is_created(node):
    """Whether an expression makes a new list, dict or set."""
    if isinstance(node, ast.Call) and isinstance(node.func, ast.Name):
        return node.func.id in ('list', 'dict', 'set', 'sorted')
    if isinstance(node, ast.Subscript):
        return isinstance(node.slice, ast.Slice)
    return isinstance(node, (ast.List, ast.Dict, ast.Set, ast.ListComp, ast.DictComp))


def changed_by(function):
    """The expressions of which a function changes an item or an attribute."""
    found = [node.value for node in nodes(function, ast.Subscript, ast.Attribute) if not isinstance(node.ctx, ast.Load)]
    for node in nodes(function, ast.Call):
        if isinstance(node.func, ast.Attribute) and node.func.attr in CHANGING:
            value = node.func.value
            # The list that setdefault gives is one that it was given, where it was not there.
            is_default = isinstance(value, ast.Call) and isinstance(value.func, ast.Attribute) and value.func.attr == 'setdefault'
            found.append(value.func.value if is_default else value)
    return found


class LanguageTests(unittest.TestCase):
    def test_operators_and_properties_change_only_what_they_created(self):
        trees = {name: tree for name, _, tree in files()}
        functions = run_by_operators(trees)
        self.assertGreater(len(functions), 60)
        for name, function in functions:
            made = {}
            for node in nodes(function, ast.Assign):
                for target in node.targets:
                    if isinstance(target, ast.Name):
                        made.setdefault(target.id, []).append(is_created(node.value))
            for value in changed_by(function):
                if function.name == '__init__':
                    self.assertEqual(getattr(value, 'id', None), 'self', (name, function.name))
                else:
                    self.assertTrue(isinstance(value, ast.Name) and all(made.get(value.id, [False])), (name, function.name, value.lineno))

    def test_finally_assigns_what_is_ready(self):
        for name, _, tree in files():
            for node in nodes(tree, ast.Try):
                for handler in node.handlers:
                    self.assertIn(handler.type.id, ('InvalidPaper', 'InvalidText', 'InvalidEvent'), name)
                for part in node.finalbody:
                    self.assertIsInstance(part, ast.Assign, name)
                    self.assertIsInstance(part.value, ast.Name, name)

    def test_strings(self):
        for name, _, tree in files():
            for node in nodes(tree, ast.FormattedValue):
                words = [part for part in nodes(node.value, ast.Constant) if isinstance(part.value, str)]
                self.assertEqual(words, [], (name, node.lineno))
            for node in nodes(tree, ast.FunctionDef):
                if node.name in ('__str__', '__len__'):
                    self.assertIsInstance(node.body[-1], ast.Return)
                    for part in nodes(node, ast.Return):
                        self.assertIsInstance(part.value, (ast.Call, ast.Constant))

    def test_no_imports_in_a_circle(self):
        imports = {name[:-3]: {node.module.partition('.')[2] for node in nodes(tree, ast.ImportFrom)} for name, _, tree in files()}
        while imports:
            ready = [name for name, others in imports.items() if not others & set(imports)]
            self.assertTrue(ready, imports)
            for name in ready:
                del imports[name]

    def test_names_of_methods_properties_and_attributes(self):
        """No class has a method and an attribute of one name, and what is decorated has its name in no other way."""
        methods, special, stored = {}, set(), {}
        for name, _, tree in files():
            for part in nodes(tree, ast.ClassDef):
                for node in part.body:
                    if isinstance(node, ast.FunctionDef):
                        words = [getattr(word, 'id', getattr(word, 'attr', None)) for word in node.decorator_list]
                        (special if words else methods.setdefault(part.name, set())).add(node.name)
                stored[part.name] = {node.attr for node in nodes(part, ast.Attribute) if not isinstance(node.ctx, ast.Load)}
        plain = set().union(*methods.values())
        self.assertFalse(special & plain)
        self.assertFalse(special & set().union(*stored.values()) - {'source'})
        for title, names in stored.items():
            self.assertFalse(names & methods.get(title, set()), title)

    def test_files(self):
        names = [path.name for path in FOLDER.iterdir() if path.name != '__pycache__']
        self.assertIn('__init__.py', names)
        for name in names:
            self.assertTrue(re.fullmatch(r'[a-z]+\.py|__init__\.py', name), name)

    def test_sizes_and_signs(self):
        for name, text, tree in files():
            self.assertLessEqual(len(text.split('\n')), 400, name)
            self.assertTrue(all(sign == '\n' or ' ' <= sign <= '~' for sign in text), name)
            self.assertFalse(any(len(line) > 120 for line in text.split('\n')), name)
            for node in nodes(tree, ast.FunctionDef):
                self.assertLessEqual(node.end_lineno - node.lineno + 1, 40, node.name)
            for node in nodes(tree, ast.Constant):
                self.assertNotIsInstance(node.value, float)
                if isinstance(node.value, str):
                    self.assertNotIn(chr(37), node.value)

    def test_imports(self):
        for name, _, tree in files():
            for node in nodes(tree, ast.ImportFrom):
                self.assertTrue(node.level == 0 and node.module.startswith('ascalls.'), name)
                self.assertIn(node, tree.body)
                made = ast.parse((FOLDER / (node.module.partition('.')[2] + '.py')).read_text(encoding='utf-8'))
                bound = [part.name for part in made.body if isinstance(part, (ast.FunctionDef, ast.ClassDef))]
                bound += [part.targets[0].id for part in made.body if isinstance(part, ast.Assign)]
                for alias in node.names:
                    self.assertIs(alias.asname, None)
                    self.assertIn(alias.name, bound)
                    used = [part.id for part in nodes(tree, ast.Name)]
                    self.assertIn(alias.name, used, name)
            imported = [alias.name for node in nodes(tree, ast.ImportFrom) for alias in node.names]
            self.assertFalse(set(imported) & set(own_names(tree)), name)

    def test_statements(self):
        for name, _, tree in files():
            for node in nodes(tree, ast.stmt):
                self.assertIsInstance(node, STATEMENTS, (name, node.lineno))
            self.assertEqual(nodes(tree, ast.GeneratorExp, ast.Lambda, ast.NamedExpr, ast.AugAssign), [], name)
            for node in tree.body:
                self.assertIsInstance(node, (ast.Expr, ast.ImportFrom, ast.Assign, ast.FunctionDef, ast.ClassDef), name)

    def test_builtins_and_methods(self):
        own = {node.name for _, _, tree in files() for node in nodes(tree, ast.FunctionDef)}
        for name, _, tree in files():
            bound = own_names(tree)
            self.assertFalse(set(bound) & (ALL_BUILTINS | set(BARRED_NAMES)) - {'__init__'}, name)
            for node in nodes(tree, ast.Name):
                if node.id in ALL_BUILTINS:
                    self.assertIn(node.id, BUILTINS, (name, node.lineno))
            for node in nodes(tree, ast.Call):
                if isinstance(node.func, ast.Attribute):
                    self.assertTrue(node.func.attr in METHODS or node.func.attr in own, (name, node.lineno))

    def test_sets_are_sorted_or_measured_at_once(self):
        for name, _, tree in files():
            calls = [node for node in nodes(tree, ast.Call) if isinstance(node.func, ast.Name)]
            sets = [node for node in calls if node.func.id == 'set']
            used = [node.args[0] for node in calls if node.func.id in ('sorted', 'len')]
            self.assertTrue(all(node in used for node in sets), name)
            # Some classes have an order of their own, so that only sets are sorted.
            self.assertTrue(all(node.args[0] in sets for node in calls if node.func.id == 'sorted'), name)

    def test_a_loop_does_not_change_what_it_goes_over(self):
        for name, _, tree in files():
            for function in nodes(tree, ast.FunctionDef):
                for loop in nodes(function, ast.For):
                    over = with_other_names(function, keys_of(loop.iter))
                    for part in loop.body:
                        self.assertFalse(over & changed_in(part), (name, part.lineno))

    def test_words(self):
        for name, text, _ in files():
            for word in BARRED:
                self.assertFalse(re.search(rf'\b{word}\b', text), (name, word))

    def test_a_generator_has_a_name_of_its_own(self):
        functions = [node for _, _, tree in files() for node in nodes(tree, ast.FunctionDef)]
        for node in functions:
            if nodes(node, ast.Yield):
                self.assertEqual([other.name for other in functions].count(node.name), 1)


if __name__ == '__main__':
    unittest.main()
