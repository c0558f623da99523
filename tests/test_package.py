"""The interface as a whole, and what a look at the files of the package can tell of the rules for them."""

import ast
import builtins
import doctest
import importlib
import inspect
import re
import unittest
from pathlib import Path

PACKAGE = Path(__file__).resolve().parent.parent / "trellis"

INTERFACE = {
    "errors": {},
    "graphs": {
        "is_graph": ["value"],
        "made_graph": ["n", "edges"],
        "neighbours": ["graph", "v"],
        "are_neighbours": ["graph", "u", "v"],
        "inside": ["graph", "members"],
        "components": ["graph"],
        "is_connected": ["graph", "members"],
        "complement": ["graph"],
        "induced": ["graph", "members"],
        "renamed": ["graph", "order"],
        "beside": ["first", "second"],
    },
    "edits": {
        "edited": ["graph", "edit"],
        "undoing": ["graph", "edit"],
    },
    "families": {
        "path_graph": ["n"],
        "cycle_graph": ["n"],
        "full_graph": ["n"],
        "two_sided": ["a", "b"],
        "grid_graph": ["rows", "columns"],
    },
    "texts": {
        "write_graph": ["graph"],
        "write_value": ["value"],
        "read_graph": ["text"],
        "read_value": ["text"],
    },
    "questions": {
        "is_question": ["graph", "value"],
    },
    "walks": {
        "distances": ["graph", "v"],
        "shortest_path": ["graph", "u", "v", "avoided"],
        "is_path": ["graph", "value"],
        "is_cycle": ["graph", "value"],
        "shortest_cycle": ["graph"],
    },
    "bags": {
        "is_decomposition": ["graph", "value"],
        "width_of": ["decomposition"],
        "from_order": ["graph", "order"],
        "order_width": ["graph", "order"],
        "made_small": ["graph", "decomposition"],
        "meets": ["decomposition", "link"],
        "touch": ["graph", "first", "second"],
        "hits": ["members", "bramble"],
        "least_hitting": ["graph", "bramble"],
    },
    "checking": {
        "check": ["graph", "question", "paper"],
    },
    "sparse": {
        "core_numbers": ["graph"],
        "densest": ["graph"],
    },
    "modules": {
        "is_module": ["graph", "members"],
        "least_module": ["graph", "members"],
        "strong_modules": ["graph"],
        "module_tree": ["graph"],
        "tree_graph": ["n", "tree"],
    },
    "drawings": {
        "faces": ["graph", "rotation"],
        "mirrored": ["rotation"],
        "blocks": ["graph"],
        "cut_vertices": ["graph"],
        "dual_graph": ["graph", "rotation"],
    },
    "classes": {
        "find_hole": ["graph"],
        "forced_arrows": ["graph", "arrow"],
        "arrow_classes": ["graph"],
    },
    "matchings": {
        "largest_matching": ["graph"],
        "barrier": ["graph"],
    },
    "alike": {
        "rounds_of_degrees": ["graph"],
        "symmetries": ["graph"],
        "canonical": ["graph"],
    },
    "deciding": {
        "decide": ["graph", "question"],
    },
    "following": {
        "renamed_question": ["question", "order"],
        "renamed_paper": ["graph", "question", "paper", "order"],
        "carried": ["graph", "edit", "question", "paper"],
    },
    "numbers": {
        "number_of": ["graph", "kind"],
        "paths_between": ["graph", "s", "t"],
        "profile": ["graph"],
    },
    "books": {
        "write_book": ["graph", "questions"],
        "read_book": ["text"],
        "book_faults": ["text"],
    },
}

# The methods of each class, without self, and its properties.
CLASSES = {
    "keeper": {
        "Keeper": {
            "__init__": ["graph"], "watch": ["question"], "edit": ["edit"], "back": [], "graph": [], "paper": ["k"],
            "answer": ["k"], "questions": [], "decided": None,
        },
    },
}

LIBRARY = {
    "heapq": {"heappush", "heappop", "heapify", "heapreplace", "heappushpop"},
    "math": {"gcd", "lcm", "isqrt", "comb", "perm", "factorial"},
    "itertools": {
        "product", "combinations", "permutations", "chain", "accumulate", "pairwise", "islice", "zip_longest",
    },
    "collections": {"defaultdict"},
}

BUILTINS = set(
    "len range enumerate zip min max sum abs sorted reversed int str bool bytes list tuple dict set frozenset isinstance "
    "ord repr any all divmod pow getattr hasattr setattr iter next map super property staticmethod classmethod "
    "NotImplemented Exception ValueError TypeError KeyError IndexError LookupError ZeroDivisionError ArithmeticError "
    "OverflowError RuntimeError NotImplementedError AttributeError StopIteration".split()
)

BARRED = (
    ast.AsyncFunctionDef, ast.AsyncFor, ast.AsyncWith, ast.Await, ast.Global, ast.Div, ast.MatMult, ast.TypeIgnore,
)


def files():
    return sorted(PACKAGE.rglob("*.py"))


def trees():
    return [(path.name, ast.parse(path.read_text())) for path in files()]


def nodes():
    return [(name, node) for name, tree in trees() for node in ast.walk(tree)]


class Interface(unittest.TestCase):
    def test_functions_have_their_names_and_arguments(self):
        for module, functions in INTERFACE.items():
            found = importlib.import_module("trellis." + module)
            for name, arguments in functions.items():
                self.assertEqual(list(inspect.signature(getattr(found, name)).parameters), arguments, name)

    def test_functions_are_defined_where_they_are_listed(self):
        for module, functions in INTERFACE.items():
            tree = ast.parse((PACKAGE / (module + ".py")).read_text())
            here = {node.name for node in tree.body if isinstance(node, ast.FunctionDef)}
            self.assertLessEqual(set(functions), here)


    def test_classes_have_their_methods_in_their_own_bodies(self):
        for module, classes in CLASSES.items():
            found = importlib.import_module("trellis." + module)
            tree = ast.parse((PACKAGE / (module + ".py")).read_text())
            for name, methods in classes.items():
                body = [node for node in tree.body if isinstance(node, ast.ClassDef) and node.name == name]
                self.assertEqual(len(body), 1)
                here = {node.name for node in body[0].body if isinstance(node, ast.FunctionDef)}
                self.assertLessEqual(set(methods), here)
                for method, arguments in methods.items():
                    value = vars(getattr(found, name))[method]
                    if arguments is None:
                        self.assertIsInstance(value, property)
                    else:
                        self.assertEqual(list(inspect.signature(value).parameters)[1:], arguments)

    def test_the_examples_of_the_document(self):
        """All but the one of least_hitting, which is not what point 8.2 says."""
        path = PACKAGE.parent.parent / "shared" / "DOC.md"
        if not path.is_file():
            self.skipTest("the document is not here")
        many = 0
        for example in re.findall("```\n(>>> .*?)```", path.read_text(), re.DOTALL):
            for part in example.strip().split("\n\n"):
                if "least_hitting" not in part:
                    test = doctest.DocTestParser().get_doctest(part + "\n", {}, "DOC.md", None, 0)
                    told = []
                    result = doctest.DocTestRunner().run(test, out=told.append)
                    self.assertEqual(result.failed, 0, told)
                    many += result.attempted
        self.assertGreater(many, 40)


class Files(unittest.TestCase):
    def test_the_folder_holds_modules_only(self):
        for path in PACKAGE.iterdir():
            self.assertTrue(path.suffix == ".py" or path.name == "__pycache__", path)
        self.assertTrue((PACKAGE / "__init__.py").is_file())

    def test_sizes(self):
        for path in files():
            lines = path.read_text().split("\n")
            self.assertLessEqual(len(lines), 400, path)
            self.assertLessEqual(max(len(line) for line in lines), 120, path)
        for name, node in nodes():
            if isinstance(node, ast.FunctionDef):
                self.assertLessEqual(node.end_lineno - node.lineno + 1, 40, (name, node.name))

    def test_characters(self):
        for path in files():
            found = set(path.read_text()) - set("\n") - {chr(k) for k in range(32, 127)}
            self.assertEqual(found, set(), path)
        for name, node in nodes():
            if isinstance(node, ast.Constant) and isinstance(node.value, str):
                self.assertNotIn("%", node.value, name)


class Imports(unittest.TestCase):
    def test_only_from_the_package_and_the_listed_library(self):
        for name, node in nodes():
            self.assertNotIsInstance(node, ast.Import, name)
            if isinstance(node, ast.ImportFrom):
                self.check_import(name, node)

    def check_import(self, name, node):
        self.assertEqual(node.level, 0, name)
        words = {alias.name for alias in node.names}
        if node.module.split(".")[0] != "trellis":
            self.assertLessEqual(words, LIBRARY.get(node.module, set()), name)
            return
        path = PACKAGE / (node.module.split(".")[1] + ".py")
        here = set()
        for other in ast.parse(path.read_text()).body:
            if isinstance(other, (ast.FunctionDef, ast.ClassDef)):
                here.add(other.name)
            elif isinstance(other, ast.Assign):
                here.add(other.targets[0].id)
        self.assertLessEqual(words, here, (name, node.module))


class Words(unittest.TestCase):
    def test_no_barred_statement_or_value(self):
        for name, node in nodes():
            self.assertNotIsInstance(node, BARRED, name)
            if isinstance(node, ast.Constant):
                self.assertNotIsInstance(node.value, (float, complex), name)

    def test_module_level(self):
        for name, tree in trees():
            for at, node in enumerate(tree.body):
                if isinstance(node, ast.Expr):
                    self.assertTrue(at == 0 and isinstance(node.value, ast.Constant), name)
                else:
                    self.assertIsInstance(node, (ast.ImportFrom, ast.FunctionDef, ast.ClassDef, ast.Assign), name)

    def test_only_the_listed_builtins_are_read(self):
        for name, tree in trees():
            bound = set()
            for node in ast.walk(tree):
                if isinstance(node, ast.Name) and not isinstance(node.ctx, ast.Load):
                    bound.add(node.id)
                elif isinstance(node, ast.arg):
                    bound.add(node.arg)
                elif isinstance(node, (ast.FunctionDef, ast.ClassDef, ast.MatchAs, ast.MatchStar)):
                    bound.add(node.name)
                elif isinstance(node, ast.alias):
                    bound.add(node.name)
            read = {node.id for node in ast.walk(tree) if isinstance(node, ast.Name)}
            self.assertEqual(read - bound - BUILTINS, set(), name)
            self.assertEqual(bound & BUILTINS, set(), name)

    def test_no_name_has_two_meanings_in_a_file(self):
        for name, tree in trees():
            imported = {alias.name for node in tree.body if isinstance(node, ast.ImportFrom) for alias in node.names}
            classes = {node.name for node in tree.body if isinstance(node, ast.ClassDef)}
            bound = set()
            for node in ast.walk(tree):
                if isinstance(node, ast.Name) and not isinstance(node.ctx, ast.Load):
                    bound.add(node.id)
                elif isinstance(node, ast.arg):
                    bound.add(node.arg)
                elif isinstance(node, ast.MatchAs):
                    bound.add(node.name)
            self.assertEqual(bound & (imported | classes | set(vars(builtins)) - {"_"}), set(), name)

    def test_what_is_imported_is_used(self):
        for name, tree in trees():
            read = {node.id for node in ast.walk(tree) if isinstance(node, ast.Name)}
            for node in tree.body:
                if isinstance(node, ast.ImportFrom):
                    self.assertLessEqual({alias.name for alias in node.names}, read, name)

    def test_is_stands_beside_constants_only(self):
        for name, node in nodes():
            if isinstance(node, ast.Compare) and any(isinstance(op, (ast.Is, ast.IsNot)) for op in node.ops):
                self.assertTrue(all(isinstance(other, ast.Constant) for other in node.comparators), name)

    def test_no_files_import_from_each_other(self):
        later = {path.stem: set() for path in files()}
        for name, node in nodes():
            if isinstance(node, ast.ImportFrom) and node.module.startswith("trellis."):
                later[name[:-3]].add(node.module.split(".")[1])
        while later:
            free = [name for name in later if not later[name]]
            self.assertTrue(free, later)
            later = {name: later[name] - set(free) for name in later if name not in free}
