"""The rules of the Python subset that can be seen in the code, checked in all files of the package."""

import ast
import builtins
import os
import re
import unittest

import polychains

FOLDER = os.path.dirname(polychains.__file__)

BUILTINS = """len range enumerate zip min max sum abs sorted reversed int str bool bytes list tuple dict set frozenset
    isinstance ord repr any all divmod pow getattr hasattr setattr Exception ValueError TypeError KeyError IndexError
    LookupError ZeroDivisionError ArithmeticError OverflowError RuntimeError NotImplementedError AttributeError
    StopIteration NotImplemented iter next map""".split()

METHODS = """append clear copy count endswith extend find get index insert isalnum isalpha isdigit islower isspace
    isupper items join keys ljust lower lstrip partition pop remove replace reverse rfind rjust rpartition rsplit
    rstrip setdefault split splitlines startswith strip update upper values zfill bit_length title capitalize swapcase
    casefold center expandtabs removeprefix removesuffix rindex isascii isdecimal isnumeric istitle isidentifier
    isprintable translate""".split()

DOUBLE = "__init__ __eq__ __repr__ __str__ __len__ __iter__ __call__ __enter__ __exit__".split()

NEVER = "register mro elements open input law version_info with_traceback add_note".split()

WORDS = """type typing typing_extensions enum Enum IntEnum StrEnum Flag IntFlag Generic Protocol ABC ABCMeta namedtuple
    NamedTuple TypedDict TYPE_CHECKING abstractmethod""".split()

CHANGING = "append clear extend insert pop remove reverse setdefault update".split()

LIBRARY = {"heapq": "heappush heappop heapify heapreplace heappushpop", "math": "gcd lcm isqrt comb perm factorial"}

AT_ONCE = "list tuple dict sorted sum any all enumerate zip min max len".split()

NODES = (ast.Module, ast.ImportFrom, ast.alias, ast.FunctionDef, ast.ClassDef, ast.arguments, ast.arg, ast.Return,
         ast.Assign, ast.AugAssign, ast.For, ast.While, ast.If, ast.Raise, ast.Try, ast.ExceptHandler, ast.Expr,
         ast.Pass, ast.Break, ast.Continue, ast.Delete, ast.BoolOp, ast.BinOp, ast.UnaryOp, ast.IfExp, ast.Dict, ast.Set,
         ast.ListComp, ast.SetComp, ast.DictComp, ast.Yield, ast.YieldFrom, ast.Compare, ast.Call, ast.JoinedStr,
         ast.FormattedValue, ast.Constant, ast.Attribute, ast.Subscript, ast.Starred, ast.Name, ast.List, ast.Tuple,
         ast.Slice, ast.comprehension, ast.Lambda, ast.expr_context, ast.boolop, ast.operator, ast.unaryop, ast.cmpop,
         ast.keyword)


def files():
    return sorted(name for name in os.listdir(FOLDER) if name != "__pycache__")


def source(name):
    with open(os.path.join(FOLDER, name), encoding="utf-8") as file:
        return file.read()


def parsed(name):
    tree = ast.parse(source(name))
    for node in ast.walk(tree):
        for child in ast.iter_child_nodes(node):
            child.parent = node
    return tree


def module_names(tree):
    """The names that a file binds at its top, each as often as it is bound."""
    found = []
    for node in tree.body:
        if isinstance(node, (ast.FunctionDef, ast.ClassDef)):
            found.append(node.name)
        elif isinstance(node, ast.Assign):
            found.extend(target.id for target in node.targets)
        elif isinstance(node, ast.ImportFrom):
            found.extend(alias.name for alias in node.names)
    return found


def local_names(tree):
    """Parameters, local variables and nested functions."""
    for node in ast.walk(tree):
        if isinstance(node, ast.arg):
            yield node.arg
        elif isinstance(node, ast.Name) and isinstance(node.ctx, ast.Store) and node not in tree.body:
            if not (isinstance(node.parent, ast.Assign) and node.parent in tree.body):
                yield node.id
        elif isinstance(node, ast.FunctionDef) and isinstance(node.parent, ast.FunctionDef):
            yield node.name
        elif isinstance(node, ast.ExceptHandler) and node.name:
            yield node.name


class Language(unittest.TestCase):
    def each(self, *kinds):
        for name in files():
            for node in ast.walk(parsed(name)):
                if isinstance(node, kinds):
                    yield node, f"{name}:{getattr(node, 'lineno', 0)}"

    def test_files_and_lines(self):
        self.assertIn("__init__.py", files())
        for name in files():
            self.assertRegex(name, r"\A(__init__|__main__|[a-z][a-z0-9_]*)\.py\Z")
            text = source(name)
            self.assertRegex(text, r"\A[\n -~]*\Z", name)
            self.assertLess(text.count("\n"), 400, name)
            for line in text.split("\n"):
                self.assertLessEqual(len(line), 120, (name, line))

    def test_functions_are_short(self):
        for node, where in self.each(ast.FunctionDef):
            self.assertLessEqual(node.end_lineno - node.lineno + 1, 40, where)
            self.assertEqual(node.decorator_list, [], where)
            for value in (*node.args.defaults, *[value for value in node.args.kw_defaults if value]):
                ast.literal_eval(value)
                self.assertIsInstance(value, (ast.Constant, ast.Tuple, ast.UnaryOp), where)
            if node.args.kwonlyargs:
                self.assertTrue(node.name == "__init__" or not node.name.startswith("__"), where)

    def test_only_plain_statements_and_expressions(self):
        for node, where in self.each(ast.AST):
            self.assertIsInstance(node, NODES, where)
            self.assertNotIsInstance(node, (ast.Div, ast.MatMult, ast.GeneratorExp), where)
            if isinstance(node, ast.Constant):
                self.assertNotIsInstance(node.value, (float, complex, bytes), where)
            if isinstance(node, ast.BinOp) and isinstance(node.op, ast.Pow):
                self.assertTrue(isinstance(node.right, ast.Constant) and 0 <= node.right.value <= 64, where)

    def test_the_top_of_a_file(self):
        for name in files():
            tree = parsed(name)
            for at, node in enumerate(tree.body):
                if isinstance(node, ast.Expr):
                    self.assertEqual(at, 0, name)
                    self.assertIsInstance(node.value, ast.Constant, name)
                elif isinstance(node, ast.Assign):
                    self.assertEqual(len(node.targets), 1, name)
                    self.assert_plain(node.value, tree.body[:at], name)
                else:
                    self.assertIsInstance(node, (ast.ImportFrom, ast.FunctionDef, ast.ClassDef), name)
            names = module_names(tree)
            self.assertEqual(len(names), len(set(names)), name)

    def assert_plain(self, value, above, name):
        """Checks that a value is plain, or a tuple or dict of plain values and of functions that stand above."""
        held = {ast.Dict: "values", ast.Tuple: "elts"}.get(value.__class__)
        for item in getattr(value, held) if held else [value]:
            if isinstance(item, ast.Name):
                self.assertIn(item.id, [node.name for node in above if isinstance(node, ast.FunctionDef)], name)
            else:
                self.assertNotIsInstance(item, (ast.List, ast.Dict), name)
                ast.literal_eval(item)

    def assert_only_called(self, tree, words, name):
        """Checks that the words are used, and only called with arguments by position, in functions."""
        used = [node for node in ast.walk(tree) if isinstance(node, ast.Name) and node.id in words]
        self.assertEqual({node.id for node in used}, set(words), name)
        for node in used:
            self.assertTrue(isinstance(node.parent, ast.Call) and node.parent.func is node, name)
            self.assertEqual(node.parent.keywords, [], name)

    def test_imports(self):
        uses = {}
        for name in files():
            tree = parsed(name)
            uses[name] = set()
            for node in ast.walk(tree):
                if isinstance(node, ast.ImportFrom) and node.module in LIBRARY:
                    self.assertIn(node, tree.body)
                    for alias in node.names:
                        self.assertIn(alias.name, LIBRARY[node.module].split(), name)
                        self.assertIsNone(alias.asname, name)
                    self.assert_only_called(tree, [alias.name for alias in node.names], name)
                elif isinstance(node, ast.ImportFrom):
                    self.assertIn(node, tree.body)
                    package, _, of = node.module.partition(".")
                    self.assertEqual((package, node.level), ("polychains", 0), name)
                    uses[name].add(f"{of}.py")
                    other = parsed(f"{of}.py")
                    for alias in node.names:
                        self.assertIsNone(alias.asname, name)
                        own = [node.name for node in other.body if isinstance(node, (ast.FunctionDef, ast.ClassDef))]
                        own += [target.id for node in other.body if isinstance(node, ast.Assign)
                                for target in node.targets]
                        self.assertIn(alias.name, own, name)
                        used = [node for node in ast.walk(tree) if isinstance(node, ast.Name) and node.id == alias.name]
                        self.assertTrue(used, (name, alias.name, "is not used"))
        while uses:
            free = [name for name in uses if not uses[name] & set(uses)]
            self.assertTrue(free, ("files import from each other", uses))
            for name in free:
                del uses[name]

    def test_names(self):
        for name in files():
            tree = parsed(name)
            taken = [node.name for node in tree.body if isinstance(node, ast.ClassDef)]
            taken += [alias.name for node in tree.body if isinstance(node, ast.ImportFrom) for alias in node.names]
            bound = list(local_names(tree))
            for local in bound:
                self.assertNotIn(local, taken, name)
            for word in (*bound, *module_names(tree)):
                self.assertNotIn(word, dir(builtins), name)
                self.assertRegex(word, r"\A(_|_?[a-zA-Z][a-zA-Z0-9_]*)\Z", name)
                self.assertNotIn(word, NEVER, name)
        for node, where in self.each(ast.Attribute):
            self.assertNotIn(node.attr, NEVER, where)
        for node, where in self.each(ast.FunctionDef):
            self.assertNotIn(node.name, NEVER + BUILTINS, where)
            if node.name.startswith("__"):
                self.assertIn(node.name, DOUBLE, where)
                self.assertIsInstance(node.parent, ast.ClassDef, where)

    def test_builtins(self):
        for node, where in self.each(ast.Name):
            if isinstance(node.ctx, ast.Load) and hasattr(builtins, node.id):
                self.assertIn(node.id, BUILTINS, where)
            if node.id == "_":
                self.assertIsInstance(node.ctx, ast.Store, where)

    def test_methods(self):
        own = {node.name for node, _ in self.each(ast.FunctionDef) if isinstance(node.parent, ast.ClassDef)}
        for node, where in self.each(ast.Call):
            if isinstance(node.func, ast.Attribute):
                self.assertIn(node.func.attr, own | set(METHODS), where)
            else:
                self.assertIsInstance(node.func, ast.Name, where)
        assigned = {node.attr for node, _ in self.each(ast.Attribute) if isinstance(node.ctx, ast.Store)}
        for node, where in self.each(ast.Attribute):
            called = isinstance(node.parent, ast.Call) and node.parent.func is node
            if not called:
                self.assertIn(node.attr, assigned, where)

    def test_iterated_at_once(self):
        for node, where in self.each(ast.Call):
            if isinstance(node.func, ast.Name) and node.func.id in ("range", "zip", "enumerate", "reversed"):
                above = node.parent
                iterated = isinstance(above, (ast.For, ast.comprehension)) and above.iter is node
                given = (isinstance(above, ast.Call) and isinstance(above.func, ast.Name)
                         and above.func.id in (*AT_ONCE, "reversed") and above.args[0] is node)
                inside = isinstance(above, ast.Compare) and isinstance(above.ops[0], ast.In)
                self.assertTrue(iterated or given or inside, where)
                if given and above.func.id in ("reversed", "len"):
                    self.assertEqual(node.func.id, "range", where)

    def test_loops_do_not_change_what_they_go_over(self):
        for node, where in self.each(ast.For):
            over = {ast.dump(part) for part in ast.walk(node.iter) if isinstance(part, (ast.Name, ast.Attribute))}
            over = {re.sub(r"ctx=\w+\(\)", "", part) for part in over}
            for row in node.body:
                for part in ast.walk(row):
                    held = None
                    if isinstance(part, ast.Call) and isinstance(part.func, ast.Attribute):
                        held = part.func.value if part.func.attr in CHANGING else None
                    elif isinstance(part, ast.Subscript) and not isinstance(part.ctx, ast.Load):
                        held = part.value
                    if held is not None:
                        self.assertNotIn(re.sub(r"ctx=\w+\(\)", "", ast.dump(held)), over, where)

    def test_comparisons_and_errors(self):
        kinds = {node.name for node, _ in self.each(ast.ClassDef)}
        for node, where in self.each(ast.Compare, ast.Raise, ast.ExceptHandler):
            if isinstance(node, ast.Compare):
                for sign, right in zip(node.ops, node.comparators):
                    if isinstance(sign, (ast.Is, ast.IsNot)):
                        self.assertIsInstance(right, ast.Constant, where)
            elif isinstance(node, ast.Raise):
                self.assertTrue(node.exc is None or isinstance(node.exc, ast.Call) and node.exc.func.id in kinds, where)
            else:
                named = node.type.elts if isinstance(node.type, ast.Tuple) else [node.type]
                self.assertLessEqual({one.id for one in named}, kinds | {"KeyError"}, where)

    def test_strings(self):
        for name in files():
            text = source(name)
            for escape in re.findall(r"\\.", text):
                self.assertIn(escape, ("\\n", "\\t", "\\\\", "\\\"", "\\'"), name)
            tree = parsed(name)
            documented = [node.body[0].value for node in ast.walk(tree)
                          if isinstance(node, (ast.Module, ast.ClassDef, ast.FunctionDef)) and node.body
                          and isinstance(node.body[0], ast.Expr)]
            for node in ast.walk(tree):
                if isinstance(node, ast.Constant) and isinstance(node.value, str):
                    self.assertNotIn("%", node.value, name)
                    self.assertNotIn("__", node.value, name)
                    if node not in documented:
                        self.assertFalse(set(re.findall(r"\w+", node.value)) & set(WORDS), name)
                elif isinstance(node, ast.Name):
                    self.assertNotIn(node.id, WORDS, name)


if __name__ == "__main__":
    unittest.main()
