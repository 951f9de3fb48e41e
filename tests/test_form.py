"""The form of the package's files: what of the language's rules can be counted."""

import ast
import builtins
import os
import unittest

import leasefiles

FOLDER = os.path.dirname(leasefiles.__file__)
BUILTINS = set("""len range enumerate zip min max sum abs sorted reversed int str bool list tuple dict set isinstance ord
repr any all divmod ValueError KeyError""".split())
METHODS = set("""append clear copy count endswith extend find get index insert isalnum isalpha isdigit islower isspace
isupper items join keys ljust lower lstrip partition pop remove replace reverse rfind rjust rpartition rsplit rstrip
setdefault split splitlines startswith strip update upper values zfill bit_length isascii isprintable""".split())
BARRED = set("""register mro elements open input law version_info with_traceback add_note attrgetter breakpoint builtins
compile copyright credits delattr dir eval exec exit gc getattr globals hasattr help id importlib license locals
methodcaller os quit setattr super type vars sys typing enum Enum Flag Generic Protocol ABC namedtuple global async
_cold _tuplegetter _outside _record _written_out _member_names""".split())
DUNDERS = {"__init__", "__eq__"}
STATEMENTS = (ast.Expr, ast.Assign, ast.AugAssign, ast.If, ast.While, ast.For, ast.Return, ast.Break, ast.Continue,
              ast.Pass, ast.Raise, ast.Assert, ast.Delete, ast.Try, ast.FunctionDef, ast.ClassDef, ast.ImportFrom)
ITERATED = {"zip", "enumerate", "reversed", "range"}
ITERATING = {"list", "tuple", "dict", "sorted", "sum", "any", "all", "enumerate", "zip", "min", "max"}
AT_ONCE = {"any", "all", "min", "max", "sum", "sorted"}


def file_names():
    return [name for name in sorted(os.listdir(FOLDER)) if name != "__pycache__"]


def source(name):
    with open(os.path.join(FOLDER, name), "rb") as file:
        return file.read()


def trees():
    return [(name, ast.parse(source(name))) for name in file_names()]


def nodes(kind):
    return [(name, node) for name, tree in trees() for node in ast.walk(tree) if isinstance(node, kind)]


def imports(tree):
    return [node for node in tree.body if isinstance(node, ast.ImportFrom)]


def bound_at_top(tree):
    """The names that a file binds itself, with those of its imports apart."""
    own = [node.name for node in tree.body if isinstance(node, (ast.FunctionDef, ast.ClassDef))]
    own += [target.id for node in tree.body if isinstance(node, ast.Assign) for target in node.targets]
    return own, [alias.name for node in imports(tree) for alias in node.names]


def bound_in(function):
    """The parameters and local variables of a function."""
    names = [arg.arg for node in ast.walk(function) if isinstance(node, ast.arguments) for arg in node.args]
    return names + [node.id for node in ast.walk(function)
                    if isinstance(node, ast.Name) and isinstance(node.ctx, ast.Store)]


class Files(unittest.TestCase):
    def test_the_folder_has_python_files_alone(self):
        self.assertIn("__init__.py", file_names())
        for name in file_names():
            self.assertTrue(name.endswith(".py"), name)
            self.assertEqual(name, name.lower())

    def test_signs(self):
        for name in file_names():
            for sign in source(name):
                self.assertTrue(sign == 10 or 32 <= sign <= 126, (name, sign))

    def test_sizes(self):
        for name in file_names():
            rows = source(name).decode("ascii").splitlines()
            self.assertLessEqual(len(rows), 399, name)
            for row in rows:
                self.assertLessEqual(len(row), 120, (name, row))

    def test_lengths_of_functions(self):
        for name, node in nodes(ast.FunctionDef):
            self.assertLessEqual(node.end_lineno - node.lineno + 1, 40, (name, node.name))


class Imports(unittest.TestCase):
    def test_each_names_the_file_that_defines_the_name(self):
        defined = {"leasefiles." + name[:-3]: bound_at_top(tree)[0] for name, tree in trees()}
        for name, node in nodes(ast.ImportFrom):
            self.assertEqual(node.level, 0)
            for alias in node.names:
                self.assertIsNone(alias.asname)
                self.assertIn(alias.name, defined[node.module], name)
        self.assertEqual(nodes(ast.Import), [])

    def test_each_is_used(self):
        for name, tree in trees():
            used = {node.id for node in ast.walk(tree) if isinstance(node, ast.Name)}
            for imported in bound_at_top(tree)[1]:
                self.assertIn(imported, used, name)

    def test_none_in_a_circle(self):
        asked = {"leasefiles." + name[:-3]: {node.module for node in imports(tree)} for name, tree in trees()}
        while asked:
            free = [name for name, others in asked.items() if not any(other in asked for other in others)]
            self.assertTrue(free, asked)
            for name in free:
                del asked[name]


class Names(unittest.TestCase):
    def test_top_names_are_bound_once(self):
        for name, tree in trees():
            own, imported = bound_at_top(tree)
            self.assertEqual(len(own + imported), len(set(own + imported)), name)

    def test_local_names(self):
        for name, tree in trees():
            classes = [node.name for node in tree.body if isinstance(node, ast.ClassDef)]
            taken = set(classes + bound_at_top(tree)[1]) | set(dir(builtins))
            for node in ast.walk(tree):
                if isinstance(node, ast.FunctionDef):
                    for bound in bound_in(node):
                        self.assertNotIn(bound, taken, (name, node.name))

    def test_no_name_of_a_builtin_and_none_that_is_barred(self):
        for name, tree in trees():
            for bound in bound_at_top(tree)[0]:
                self.assertNotIn(bound, dir(builtins), name)
            for node in ast.walk(tree):
                names = [getattr(node, key, None) for key in ("id", "attr", "arg", "name")]
                for used in [used for used in names if isinstance(used, str)]:
                    self.assertNotIn(used, BARRED, name)
                    self.assertTrue(not used.startswith("__") or used in DUNDERS, (name, used))
                if isinstance(node, ast.Name) and used in dir(builtins):
                    self.assertIn(used, BUILTINS, name)

    def test_methods(self):
        own = {node.name for _, node in nodes(ast.FunctionDef)}
        attributes = {node.attr for _, node in nodes(ast.Attribute) if isinstance(node.ctx, ast.Store)}
        for name, node in nodes(ast.Call):
            if isinstance(node.func, ast.Attribute):
                self.assertIn(node.func.attr, METHODS | own, name)
        for name, node in nodes(ast.ClassDef):
            methods = [part.name for part in node.body if isinstance(part, ast.FunctionDef)]
            self.assertEqual(len(methods), len(set(methods)), name)
            stored = {part.attr for part in ast.walk(node)
                      if isinstance(part, ast.Attribute) and isinstance(part.ctx, ast.Store)}
            self.assertFalse(stored & set(methods), name)
        for name, node in nodes(ast.Attribute):
            self.assertIn(node.attr, METHODS | own | attributes, name)


class Statements(unittest.TestCase):
    def test_kinds(self):
        for name, node in nodes(ast.stmt):
            self.assertIsInstance(node, STATEMENTS, name)

    def test_top_level(self):
        for name, tree in trees():
            for k, node in enumerate(tree.body):
                if k == 0:
                    self.assertIsInstance(ast.get_docstring(tree), str, name)
                    continue
                self.assertIsInstance(node, (ast.ImportFrom, ast.FunctionDef, ast.ClassDef, ast.Assign), name)
                for part in ast.walk(node) if isinstance(node, ast.Assign) else []:
                    self.assertNotIsInstance(part, (ast.Call, ast.List, ast.Set, ast.ListComp, ast.Lambda), name)

    def test_tables_of_functions_name_those_of_their_file(self):
        for name, tree in trees():
            functions = [node.name for node in tree.body if isinstance(node, ast.FunctionDef)]
            for node in tree.body:
                for part in ast.walk(node) if isinstance(node, ast.Assign) else []:
                    if isinstance(part, ast.Name) and isinstance(part.ctx, ast.Load):
                        self.assertIn(part.id, functions, name)

    def test_no_decorators_and_no_annotations(self):
        for name, node in nodes((ast.FunctionDef, ast.ClassDef)):
            self.assertEqual(node.decorator_list, [], name)
        for name, node in nodes(ast.FunctionDef):
            self.assertIsNone(node.returns, name)
            self.assertTrue(all(arg.annotation is None for arg in node.args.args), name)

    def test_no_finally_and_only_own_errors_are_caught(self):
        errors = {node.name for name, node in nodes(ast.ClassDef) if name == "errors.py"}
        for name, node in nodes(ast.Try):
            self.assertEqual(node.finalbody, [], name)
            for handler in node.handlers:
                caught = handler.type.elts if isinstance(handler.type, ast.Tuple) else [handler.type]
                for error in caught:
                    self.assertIn(error.id, errors, name)
        for name, node in nodes(ast.Raise):
            self.assertIn(node.exc.func.id, errors, name)


class Expressions(unittest.TestCase):
    def test_no_generator_expressions_sets_and_floats(self):
        kinds = (ast.GeneratorExp, ast.SetComp, ast.Set, ast.Yield, ast.Lambda, ast.NamedExpr, ast.Await, ast.Div)
        self.assertEqual(nodes(kinds), [])
        for name, node in nodes(ast.Constant):
            self.assertTrue(node.value is None or isinstance(node.value, (int, str)), name)

    def test_what_is_iterated_at_once(self):
        for name, tree in trees():
            above = {child: node for node in ast.walk(tree) for child in ast.iter_child_nodes(node)}
            for node in above:
                if not isinstance(node, ast.Call):
                    continue
                called = getattr(node.func, "id", None) or getattr(node.func, "attr", None)
                if called in ITERATED or isinstance(node.func, ast.Attribute) and called in ("items", "keys"):
                    user = above[node]
                    if isinstance(user, ast.Call):
                        self.assertIn(user.func.id, ITERATING, (name, node.lineno))
                    else:
                        self.assertIsInstance(user, (ast.For, ast.comprehension), (name, node.lineno))
                        self.assertIs(user.iter, node)

    def test_sets_are_measured_at_once(self):
        for name, tree in trees():
            above = {child: node for node in ast.walk(tree) for child in ast.iter_child_nodes(node)}
            for node in above:
                if isinstance(node, ast.Call) and getattr(node.func, "id", None) == "set":
                    self.assertIn(getattr(above[node].func, "id", None), ("len", "sorted"), name)

    def test_functions_of_lists_take_lists(self):
        for name, node in nodes(ast.Call):
            if getattr(node.func, "id", None) in AT_ONCE:
                self.assertFalse(any(isinstance(part, ast.GeneratorExp) for part in node.args), name)

    def test_is_stands_beside_none_true_and_false(self):
        for name, node in nodes(ast.Compare):
            for op, right in zip(node.ops, node.comparators):
                if isinstance(op, (ast.Is, ast.IsNot)):
                    self.assertIsInstance(right, ast.Constant, name)
                    self.assertIn(right.value, (None, True, False))

    def test_exponents(self):
        for name, node in nodes(ast.BinOp):
            if isinstance(node.op, ast.Pow):
                self.assertIn(node.right.value, range(65), name)

    def test_strings(self):
        for name, node in nodes(ast.Constant):
            if isinstance(node.value, str):
                self.assertNotIn("%", node.value, name)
                self.assertNotIn(node.value, BARRED, name)
        self.assertEqual(nodes(ast.JoinedStr), [])

    def test_keywords_of_builtins(self):
        for name, node in nodes(ast.Call):
            for keyword in node.keywords:
                self.assertIn((node.func.id, keyword.arg), [("enumerate", "start")], name)


if __name__ == "__main__":
    unittest.main()
