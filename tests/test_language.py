"""What a program can see of ../shared/LANGUAGE.md: the rules that all files of the package keep."""

import ast
import builtins
import os
import unittest

import greenheld

FOLDER = os.path.dirname(greenheld.__file__)
LIBRARY = {"math": {"gcd", "lcm", "isqrt", "comb", "perm", "factorial"},
           "itertools": {"product", "combinations", "permutations"}, "heapq": {"heappush", "heappop", "heapify"}}
BUILTINS = set("""len range enumerate zip min max sum abs sorted reversed int str bool bytes list tuple dict set isinstance
    ord repr any all divmod map Exception ValueError TypeError KeyError IndexError LookupError""".split())
METHODS = set("""append clear copy count endswith extend find get index insert isalnum isalpha isdigit islower isspace
    isupper items join keys ljust lower lstrip partition pop remove replace reverse rfind rjust rpartition rsplit rstrip
    setdefault split splitlines startswith strip update upper values zfill bit_length add discard""".split())
NOWHERE = {"register", "mro", "elements", "open", "input", "law", "version_info", "with_traceback", "add_note"}
WORDS = ("typing", "enum", "Enum", "Generic", "Protocol", "namedtuple", "NamedTuple", "dataclass", "contextmanager")
# A run of doctest puts "_" among Python's own names, which is free here.
BUILT_IN = set(dir(builtins)) - {"_"}
STATEMENTS = (ast.FunctionDef, ast.ClassDef, ast.Assign, ast.ImportFrom)
BARRED = (ast.AsyncFunctionDef, ast.AsyncFor, ast.AsyncWith, ast.Await, ast.Global, ast.Yield, ast.YieldFrom, ast.Div,
          ast.MatMult, ast.Import, ast.AnnAssign, ast.NamedExpr)


def sources():
    """The text of each file of the package, by its name."""
    found = {}
    for name in sorted(os.listdir(FOLDER)):
        if name != "__pycache__":
            with open(os.path.join(FOLDER, name), encoding="utf-8") as file:
                found[name] = file.read()
    return found


SOURCES = sources()
TREES = {name: ast.parse(text) for name, text in SOURCES.items()}


def imports(tree):
    return [node for node in ast.walk(tree) if isinstance(node, ast.ImportFrom)]


def imported(tree):
    return {alias.name for node in imports(tree) for alias in node.names}


def defined(tree):
    """The names that a file binds itself, at module level."""
    found = []
    for node in tree.body:
        if isinstance(node, (ast.FunctionDef, ast.ClassDef)):
            found.append(node.name)
        elif isinstance(node, ast.Assign):
            found.append(node.targets[0].id)
    return found


class Files(unittest.TestCase):
    def test_the_folder_holds_its_files_alone(self):
        self.assertIn("__init__.py", SOURCES)
        for name in SOURCES:
            self.assertRegex(name, r"^(__init__|[a-z][a-z0-9]*)\.py$")

    def test_sizes_and_signs(self):
        for name, tree in TREES.items():
            lines = SOURCES[name].split("\n")
            self.assertLessEqual(len(lines), 399)
            self.assertLessEqual(max(len(line) for line in lines), 120)
            self.assertTrue(all(sign == "\n" or " " <= sign <= "~" for sign in SOURCES[name]))
            for node in ast.walk(tree):
                if isinstance(node, ast.FunctionDef):
                    self.assertLessEqual(node.end_lineno - node.lineno + 1, 40, node.name)
                    self.assertEqual(node.decorator_list, [])

    def test_module_level(self):
        for tree in TREES.values():
            rest = tree.body[1:]
            self.assertIsNotNone(ast.get_docstring(tree))
            for node in rest:
                self.assertIsInstance(node, STATEMENTS)
                if isinstance(node, ast.Assign):
                    self.assertIsInstance(node.targets[0], ast.Name)
                    self.assert_plain(tree, node)
            names = defined(tree) + sorted(imported(tree))
            self.assertEqual(len(names), len(set(names)))

    def assert_plain(self, tree, node):
        """A plain value, or a dict of texts and of functions defined above it."""
        if not isinstance(node.value, ast.Dict) or not all(isinstance(part, ast.Name) for part in node.value.values):
            ast.literal_eval(node.value)
            return
        functions = [part.name for part in tree.body if isinstance(part, ast.FunctionDef) and part.lineno < node.lineno]
        for key, part in zip(node.value.keys, node.value.values):
            self.assertIsInstance(ast.literal_eval(key), str)
            self.assertIn(part.id, functions)

    def test_classes(self):
        for tree in TREES.values():
            for node in [part for part in ast.walk(tree) if isinstance(part, ast.ClassDef)]:
                self.assertIn(node, tree.body)
                self.assertEqual(node.decorator_list, [])
                methods = [part.name for part in node.body[1:]]
                self.assertTrue(all(isinstance(part, ast.FunctionDef) for part in node.body[1:]))
                self.assertEqual(len(methods), len(set(methods)))
                self.assertEqual([name for name in methods if name.startswith("__") and name != "__init__"], [])
                own = {part.attr for part in ast.walk(node) if isinstance(part, ast.Attribute) and isinstance(part.ctx, ast.Store)}
                self.assertFalse(own & set(methods))

    def test_patterns_and_stars(self):
        for tree in TREES.values():
            for node in ast.walk(tree):
                # Only sequences of texts and names, each name once, none of them a parameter's.
                if isinstance(node, ast.FunctionDef):
                    parameters = {part.arg for part in node.args.args}
                    captured = [part.name for part in ast.walk(node) if isinstance(part, ast.MatchAs) and part.name]
                    self.assertFalse(parameters & set(captured))
                self.assertNotIsInstance(node, (ast.MatchOr, ast.MatchStar, ast.MatchClass, ast.MatchMapping, ast.MatchSingleton))
                if isinstance(node, ast.Call):
                    self.assertTrue(all(isinstance(part.value, (ast.Name, ast.Attribute)) for part in node.args
                                        if isinstance(part, ast.Starred)))
                    # What is iterated on the spot is not passed on.
                    if isinstance(node.func, ast.Name) and node.func.id not in BUILTINS | set().union(*LIBRARY.values()):
                        self.assertFalse([part for part in node.args if isinstance(part, ast.Call) and isinstance(part.func, ast.Name)
                                          and part.func.id in ("range", "zip", "enumerate", "reversed", "map")])

    def test_imports(self):
        for tree in TREES.values():
            for node in imports(tree):
                self.assertEqual(node.level, 0)
                self.assertTrue(all(alias.asname is None for alias in node.names))
                if node.module in LIBRARY:
                    self.assertLessEqual({alias.name for alias in node.names}, LIBRARY[node.module])
                else:
                    package, _, name = node.module.partition(".")
                    self.assertEqual(package, "greenheld")
                    for alias in node.names:
                        self.assertIn(alias.name, defined(TREES[name + ".py"]))

    def test_no_two_files_import_from_each_other(self):
        ahead = {name: {node.module.partition(".")[2] + ".py" for node in imports(tree) if node.module not in LIBRARY}
                 for name, tree in TREES.items()}
        while ahead:
            free = [name for name in ahead if not ahead[name]]
            self.assertTrue(free, ahead)
            ahead = {name: ahead[name] - set(free) for name in ahead if name not in free}

    def test_names(self):
        own_methods = {node.name for tree in TREES.values() for part in ast.walk(tree) if isinstance(part, ast.ClassDef)
                       for node in part.body if isinstance(node, ast.FunctionDef)}
        for name, tree in TREES.items():
            barred = {part.name for part in tree.body if isinstance(part, ast.ClassDef)} | imported(tree)
            for node in ast.walk(tree):
                self.assertNotIsInstance(node, BARRED)
                if isinstance(node, ast.Constant):
                    self.assertNotIsInstance(node.value, (float, complex, bytes))
                    if isinstance(node.value, str) and node.value != ast.get_docstring(tree):
                        self.assertFalse(any(sign in node.value for sign in "%\r"))
                bound = [node.id] if isinstance(node, ast.Name) and isinstance(node.ctx, ast.Store) else []
                bound += [node.arg] if isinstance(node, ast.arg) else []
                for word in bound:
                    self.assertNotIn(word, barred)
                    self.assertNotIn(word, BUILT_IN)
                    self.assertNotIn(word, NOWHERE)
                    self.assertFalse(word.startswith("__"))
                if isinstance(node, ast.Name) and isinstance(node.ctx, ast.Load):
                    self.assertNotEqual(node.id, "_")
                    self.assertIn(node.id, BUILTINS | {node.id} - BUILT_IN)
                if isinstance(node, ast.Call) and isinstance(node.func, ast.Attribute):
                    self.assertIn(node.func.attr, METHODS | own_methods)
            for word in WORDS:
                self.assertNotRegex(SOURCES[name], rf"\b{word}\b")


if __name__ == "__main__":
    unittest.main()
