"""Point 3 (no clock, no random numbers, no files, no network), and what can be counted of LANGUAGE.md."""

import ast
import builtins
import pathlib
import re
import unittest

import swarmwhole

PACKAGE = pathlib.Path(swarmwhole.__file__).parent

LIBRARY = {"heapq": {"heappush", "heappop", "heapify", "heapreplace", "heappushpop"},
           "math": {"gcd", "lcm", "isqrt", "comb", "perm", "factorial"},
           "itertools": {"product", "combinations", "permutations", "chain", "accumulate", "pairwise", "islice",
                         "zip_longest"},
           "collections": {"defaultdict"}}

BARRED_NAMES = {
    "open", "input", "eval", "exec", "compile", "globals", "locals", "vars", "dir", "id", "hash", "type", "print",
    "chr", "round", "filter", "object", "super", "delattr", "callable", "slice", "bin", "hex", "oct", "float",
    "complex", "bytes", "bytearray", "memoryview", "format", "iter", "next", "map", "register", "mro", "elements",
}
BARRED_WORDS = {
    "type", "typing", "typing_extensions", "enum", "Enum", "IntEnum", "StrEnum", "Flag", "IntFlag", "Generic",
    "Protocol",
    "ABC", "ABCMeta", "namedtuple", "NamedTuple", "TypedDict", "TYPE_CHECKING", "abstractmethod", "_wall", "_WallAttr",
}
BARRED_NODES = (
    ast.Global, ast.AsyncFunctionDef, ast.Await, ast.AsyncFor, ast.AsyncWith, ast.Import, ast.Div, ast.MatMult, ast.Set,
    ast.SetComp, ast.TryStar,
)


def files():
    return sorted(PACKAGE.rglob("*.py"))


def nodes():
    for path in files():
        for node in ast.walk(ast.parse(path.read_text())):
            yield path.name, node


class Language(unittest.TestCase):
    def test_the_package_holds_plain_python_files_only(self):
        there = {path.name for path in PACKAGE.iterdir() if path.name != "__pycache__"}
        self.assertEqual(there, {path.name for path in files()})
        self.assertTrue(all(name.replace("_", "").removesuffix(".py").islower() for name in there))

    def test_3_nothing_is_imported_but_the_package_and_plain_functions(self):
        for file, node in nodes():
            if isinstance(node, ast.ImportFrom):
                with self.subTest(file=file, line=node.lineno):
                    self.assertEqual(node.level, 0)
                    self.assertTrue(all(alias.asname is None and alias.name != "*" for alias in node.names))
                    if not node.module.startswith("swarmwhole."):
                        self.assertLessEqual({alias.name for alias in node.names}, LIBRARY[node.module])

    def test_3_no_name_and_no_statement_that_is_barred(self):
        for file, node in nodes():
            with self.subTest(file=file, line=getattr(node, "lineno", 0)):
                self.assertNotIsInstance(node, BARRED_NODES)
                if isinstance(node, ast.Name):
                    self.assertNotIn(node.id, BARRED_NAMES)
                if isinstance(node, ast.arg):
                    self.assertNotIn(node.arg, BARRED_NAMES)
                if isinstance(node, ast.Attribute):
                    self.assertFalse(node.attr.startswith("__") and node.attr != "__init__")
                if isinstance(node, ast.Constant):
                    self.assertNotIsInstance(node.value, (float, complex, bytes))
                    self.assertFalse(isinstance(node.value, str) and "%" in node.value)
                if isinstance(node, (ast.FunctionDef, ast.ClassDef)):
                    self.assertEqual(node.decorator_list, [])

    def test_sizes_and_characters(self):
        for path in files():
            text = path.read_text()
            lines = text.split("\n")
            with self.subTest(path.name):
                self.assertLessEqual(len(lines) - 1, 399)
                self.assertLessEqual(max(len(line) for line in lines), 120)
                self.assertTrue(all(character == "\n" or " " <= character <= "~" for character in text))
        for file, node in nodes():
            if isinstance(node, ast.FunctionDef):
                with self.subTest(file=file, function=node.name):
                    self.assertLessEqual(node.end_lineno - node.lineno + 1, 40)

    def test_names_are_bound_once_and_hide_nothing(self):
        for path in files():
            tree = ast.parse(path.read_text())
            imported = [alias.name for node in tree.body if isinstance(node, ast.ImportFrom) for alias in node.names]
            defined = [node.name for node in tree.body if isinstance(node, (ast.FunctionDef, ast.ClassDef))]
            given = [target.id for node in tree.body if isinstance(node, ast.Assign) for target in node.targets]
            bound = imported + defined + given
            classes = {node.name for node in tree.body if isinstance(node, ast.ClassDef)}
            inner = {node.arg for node in ast.walk(tree) if isinstance(node, ast.arg)}
            for node in ast.walk(tree):
                if isinstance(node, ast.Name) and isinstance(node.ctx, ast.Store):
                    inner.add(node.id)
            with self.subTest(path.name):
                self.assertEqual(len(bound), len(set(bound)))
                self.assertEqual(inner & (set(imported) | classes), set())
                self.assertEqual((inner | set(bound)) & set(dir(builtins)), set())

    def test_words_that_are_barred(self):
        for path in files():
            tree = ast.parse(path.read_text())
            for node in ast.walk(tree):
                if isinstance(node, (ast.Module, ast.ClassDef, ast.FunctionDef)) and ast.get_docstring(node):
                    node.body[0] = ast.Pass()
            words = set(re.findall(r"\w+", ast.unparse(tree)))
            with self.subTest(path.name):
                self.assertEqual(words & BARRED_WORDS, set())

    def test_no_two_files_import_from_each_other(self):
        imports = {path.stem: set() for path in files()}
        for file, node in nodes():
            if isinstance(node, ast.ImportFrom) and node.module.startswith("swarmwhole."):
                imports[file.removesuffix(".py")].add(node.module.removeprefix("swarmwhole."))
        while imports:
            free = [name for name, needed in imports.items() if not needed & set(imports)]
            self.assertNotEqual(free, [], f"a circle among {sorted(imports)}")
            for name in free:
                del imports[name]


if __name__ == "__main__":
    unittest.main()
