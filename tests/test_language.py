"""The package keeps to the subset of Python in which it is written: what of it can be seen plainly."""

import ast
import builtins
import unittest
from pathlib import Path

FOLDER = Path(__file__).resolve().parent.parent / "mastcalls"
PACKAGE = "mastcalls"

STATEMENTS = (ast.FunctionDef, ast.ClassDef, ast.Return, ast.Delete, ast.Assign, ast.AugAssign, ast.For, ast.While,
              ast.If, ast.Raise, ast.Try, ast.Assert, ast.ImportFrom, ast.Expr, ast.Pass, ast.Break, ast.Continue)
BARRED = (ast.AsyncFunctionDef, ast.Global, ast.Import, ast.Await, ast.Yield, ast.YieldFrom, ast.Starred,
          ast.AnnAssign, ast.NamedExpr, ast.GeneratorExp, ast.Div, ast.With, ast.Nonlocal)
LIBRARY = {"itertools": ("product", "combinations", "permutations"), "heapq": ("heappush", "heappop"),
           "math": ("gcd", "lcm", "isqrt", "comb")}
CALLED = ("len range enumerate zip min max sum abs sorted reversed int str bool list tuple dict set isinstance ord "
          "repr any all divmod").split()
OF_VALUES = ("append clear copy count endswith extend find get index insert isalnum isalpha isdigit islower isspace "
             "isupper items join keys ljust lower lstrip partition pop remove replace reverse rfind rjust rpartition "
             "rsplit rstrip setdefault split splitlines startswith strip update upper values zfill").split()
NEVER = ("register mro elements open input law version_info with_traceback add_note").split()
ERRORS = ("BadName", "BadText", "BadScene", "BadCut", "TooMany")
WORDS = ("type typing enum Enum Flag Generic Protocol ABC namedtuple NamedTuple dataclass overload "
         "contextmanager").split()


def files():
    return sorted(FOLDER.glob("*.py"))


def trees():
    return [(path.name, ast.parse(path.read_text())) for path in files()]


def names_bound(tree):
    """The names of functions, parameters and variables of a file."""
    for node in ast.walk(tree):
        if isinstance(node, (ast.FunctionDef, ast.ClassDef)):
            yield node.name
        if isinstance(node, ast.arg):
            yield node.arg
        if isinstance(node, ast.Name) and isinstance(node.ctx, ast.Store):
            yield node.id


class LanguageTest(unittest.TestCase):

    def test_the_folder_holds_files_alone(self):
        for path in FOLDER.iterdir():
            if path.name != "__pycache__":
                self.assertTrue(path.is_file() and path.suffix == ".py", path)

    def test_sizes_and_signs(self):
        for path in files():
            lines = path.read_text().split("\n")
            self.assertLessEqual(len(lines), 399, path)
            for line in lines:
                self.assertLessEqual(len(line), 120, line)
                self.assertTrue(all(" " <= sign <= "~" for sign in line), line)

    def test_functions_are_short_and_plain(self):
        for name, tree in trees():
            for node in ast.walk(tree):
                if isinstance(node, ast.FunctionDef):
                    self.assertLessEqual(node.end_lineno - node.lineno + 1, 40, (name, node.name))
                    self.assertEqual(node.decorator_list, [], (name, node.name))
                    self.assertIsNone(node.returns, (name, node.name))
                    self.assertIsNone(node.args.vararg or node.args.kwarg, (name, node.name))
                    if node.name.startswith("__"):
                        self.assertIn(node.name, ("__init__", "__eq__"))

    def test_statements_and_expressions(self):
        for name, tree in trees():
            for node in ast.walk(tree):
                if isinstance(node, ast.stmt):
                    self.assertIsInstance(node, STATEMENTS, name)
                self.assertNotIsInstance(node, BARRED, (name, getattr(node, "lineno", 0)))
                if isinstance(node, ast.Constant):
                    self.assertNotIsInstance(node.value, (float, complex), name)
                    self.assertFalse(isinstance(node.value, str) and "%" in node.value, name)

    def test_module_level(self):
        for name, tree in trees():
            bound = []
            for node in tree.body:
                self.assertIsInstance(node, (ast.Expr, ast.ImportFrom, ast.FunctionDef, ast.ClassDef, ast.Assign))
                if isinstance(node, ast.ImportFrom):
                    bound.extend([alias.name for alias in node.names])
                elif isinstance(node, ast.Assign):
                    self.assertEqual(len(node.targets), 1)
                    bound.append(node.targets[0].id)
                elif not isinstance(node, ast.Expr):
                    bound.append(node.name)
            self.assertEqual(len(bound), len(set(bound)), name)

    def test_imports_name_the_very_file(self):
        tops = {}
        for name, tree in trees():
            tops[name[:-3]] = [node.name for node in tree.body if isinstance(node, (ast.FunctionDef, ast.ClassDef))]
            tops[name[:-3]] += [node.targets[0].id for node in tree.body if isinstance(node, ast.Assign)]
        reads = {}
        for name, tree in trees():
            reads[name[:-3]] = []
            for node in ast.walk(tree):
                if isinstance(node, ast.ImportFrom):
                    self.assertEqual((node.level, [alias.asname for alias in node.names]),
                                     (0, [None] * len(node.names)))
                    for alias in node.names:
                        if node.module in LIBRARY:
                            self.assertIn(alias.name, LIBRARY[node.module])
                        else:
                            package, module = node.module.split(".")
                            self.assertEqual(package, PACKAGE)
                            self.assertIn(alias.name, tops[module])
                            reads[name[:-3]].append(module)
        while reads:
            ends = [module for module in reads if not any(other in reads for other in reads[module])]
            self.assertTrue(ends, "files that import from each other: " + str(sorted(reads)))
            for module in ends:
                del reads[module]

    def test_names(self):
        for name, tree in trees():
            inside = [node for node in tree.body if isinstance(node, (ast.FunctionDef, ast.ClassDef))]
            tops = [alias.name for node in tree.body if isinstance(node, ast.ImportFrom) for alias in node.names]
            tops += [node.name for node in inside if isinstance(node, ast.ClassDef)]
            methods = [node.name for part in inside if isinstance(part, ast.ClassDef) for node in part.body
                       if isinstance(node, ast.FunctionDef)]
            for word in names_bound(tree):
                self.assertNotIn(word, NEVER + WORDS, name)
                self.assertTrue(word in methods or word == "_" or not hasattr(builtins, word), (name, word))
            for node in ast.walk(tree):
                if isinstance(node, ast.arg):
                    self.assertNotIn(node.arg, tops, name)
                if isinstance(node, ast.Name) and isinstance(node.ctx, ast.Store):
                    self.assertNotIn(node.id, tops, name)
                    self.assertFalse(node.id.startswith("__"), name)
                if isinstance(node, ast.Name) and node.id == "_":
                    self.assertIsInstance(node.ctx, ast.Store, name)

    def test_calls(self):
        own = set()
        for _, tree in trees():
            for node in ast.walk(tree):
                if isinstance(node, (ast.FunctionDef, ast.ClassDef)):
                    own.add(node.name)
        for name, tree in trees():
            handed_in = {node.arg for node in ast.walk(tree) if isinstance(node, ast.arg)}
            for node in ast.walk(tree):
                if isinstance(node, ast.Call):
                    called = node.func.id if isinstance(node.func, ast.Name) else node.func.attr
                    places = own | {"combinations", "product", "heappush", "heappop"}
                    if called == "super":
                        self.assertEqual((node.args, node.keywords), ([], []))
                    elif isinstance(node.func, ast.Name):
                        self.assertTrue(called in places | handed_in or called in CALLED, (name, called))
                    else:
                        self.assertTrue(called in own or called in OF_VALUES, (name, called))
                    if called not in own:
                        self.assertTrue(all(key.arg in ("key", "reverse", "default", "start")
                                            for key in node.keywords), (name, called))

    def test_a_name_is_no_method_and_attribute_of_one_class(self):
        families = {}
        for name, tree in trees():
            for part in ast.walk(tree):
                if isinstance(part, ast.ClassDef):
                    methods = [node.name for node in part.body if isinstance(node, ast.FunctionDef)]
                    kept = {node.attr for node in ast.walk(part)
                            if isinstance(node, ast.Attribute) and isinstance(node.ctx, ast.Store)}
                    self.assertEqual(len(methods), len(set(methods)), (name, part.name))
                    bases = [base.id for base in part.bases]
                    self.assertLessEqual(len(bases), 1, (name, part.name))
                    families[part.name] = bases, set(methods), kept
        for part, (bases, methods, kept) in families.items():
            while bases and bases[0] in families:
                above = families[bases[0]]
                bases, methods, kept = above[0], methods | above[1], kept | above[2]
            self.assertEqual(sorted(kept & methods), [], part)

    def test_nothing_is_read_off_a_class(self):
        classes = {part.name for _, tree in trees() for part in ast.walk(tree) if isinstance(part, ast.ClassDef)}
        for name, tree in trees():
            for node in ast.walk(tree):
                if isinstance(node, ast.Attribute) and isinstance(node.value, ast.Name):
                    self.assertNotIn(node.value.id, classes, (name, node.lineno))

    def test_calls_pass_what_is_taken(self):
        takes = {}
        for _, tree in trees():
            for node in tree.body:
                if isinstance(node, ast.FunctionDef):
                    takes.setdefault(node.name, set()).add(len(node.args.args))
                if isinstance(node, ast.ClassDef):
                    for part in node.body:
                        if isinstance(part, ast.FunctionDef):
                            word = node.name if part.name == "__init__" else "." + part.name
                            takes.setdefault(word, set()).add(len(part.args.args) - 1)
        for name, tree in trees():
            for node in ast.walk(tree):
                if isinstance(node, ast.Call) and not node.keywords:
                    word = node.func.id if isinstance(node.func, ast.Name) else "." + node.func.attr
                    if word in takes and word[1:] not in OF_VALUES:
                        self.assertIn(len(node.args), takes[word], (name, node.lineno, word))

    def test_sets_stand_where_they_may(self):
        for name, tree in trees():
            parents = {child: node for node in ast.walk(tree) for child in ast.iter_child_nodes(node)}
            for node in ast.walk(tree):
                is_call = isinstance(node, ast.Call) and isinstance(node.func, ast.Name) and node.func.id == "set"
                if is_call or isinstance(node, (ast.Set, ast.SetComp)):
                    above = parents[node]
                    is_in = isinstance(above, ast.Call) and getattr(above.func, "id", "") in ("sorted", "len")
                    self.assertTrue(is_in, (name, node.lineno))

    def test_attributes_are_assigned_through_local_names(self):
        for name, tree in trees():
            for node in ast.walk(tree):
                if isinstance(node, ast.Attribute) and isinstance(node.ctx, ast.Store):
                    self.assertIsInstance(node.value, ast.Name, (name, node.lineno))

    def test_tables_of_files_are_only_read(self):
        tables = set()
        for _, tree in trees():
            for node in tree.body:
                if isinstance(node, ast.Assign) and isinstance(node.value, (ast.Dict, ast.List)):
                    tables.add(node.targets[0].id)
        self.assertEqual(tables, {"PARTS", "QUESTIONS", "WORDS", "DEEDS"})
        for name, tree in trees():
            parents = {child: node for node in ast.walk(tree) for child in ast.iter_child_nodes(node)}
            for node in ast.walk(tree):
                if isinstance(node, ast.Name) and isinstance(node.ctx, ast.Load) and node.id in tables:
                    self.assertIsInstance(parents[node], (ast.Subscript, ast.Compare), (name, node.lineno))

    def test_handlers(self):
        for name, tree in trees():
            for node in ast.walk(tree):
                if isinstance(node, ast.ExceptHandler):
                    self.assertIn(node.type.id, ERRORS, name)
                if isinstance(node, ast.Raise) and node.exc is not None:
                    self.assertIn(node.exc.func.id, ERRORS, name)
