"""What of the rules for the code can be seen mechanically: L1, L2, L7, L10, L14 to L16."""

import ast
import builtins
import os

import chooseonce
from tests.helping import Case

FOLDER = os.path.dirname(chooseonce.__file__)
FILES = sorted(name for name in os.listdir(FOLDER) if name != "__pycache__")
LIBRARY = ("heapq", "math", "itertools", "collections", "__future__")


def source(file):
    with open(os.path.join(FOLDER, file), encoding="utf-8") as opened:
        return opened.read()


def imports(file):
    """Pairs (module, name) of what the file imports, but for the library."""
    return [
        (node.module, name.name)
        for node in ast.walk(ast.parse(source(file))) if isinstance(node, ast.ImportFrom)
        for name in node.names if node.module not in LIBRARY
    ]


class Language(Case):
    def test_files(self):
        self.assertIn("__init__.py", FILES)
        self.assertLessEqual(len(FILES), 100)
        for file in FILES:
            self.assertRegex(file, r"^[a-z_]+\.py$")

    def test_characters_and_sizes(self):
        for file in FILES:
            lines = source(file).split("\n")
            self.assertLess(len(lines), 400, file)
            for line in lines:
                self.assertLessEqual(len(line), 120, file)
                self.assertRegex(line, "^[ -~]*$", file)

    def test_functions_are_small(self):
        for file in FILES:
            for node in ast.walk(ast.parse(source(file))):
                if isinstance(node, ast.FunctionDef):
                    self.assertLessEqual(node.end_lineno - node.lineno + 1, 40, node.name)

    def test_imports_name_the_file_that_defines(self):
        for file in FILES:
            tree = ast.parse(source(file))
            self.assertFalse([node for node in ast.walk(tree) if isinstance(node, ast.Import)])
            for module, name in imports(file):
                package, _, origin = module.partition(".")
                self.assertEqual(package, "chooseonce")
                self.assertIn(name, self.defined(origin + ".py"))

    def defined(self, file):
        names = []
        for node in ast.parse(source(file)).body:
            if isinstance(node, (ast.FunctionDef, ast.ClassDef)):
                names.append(node.name)
            elif isinstance(node, ast.Assign):
                names.append(node.targets[0].id)
        self.assertEqual(len(names), len(set(names)), file)
        return names

    def test_no_files_import_from_each_other(self):
        left = {file: {module.partition(".")[2] + ".py" for module, _ in imports(file)}
                for file in FILES}
        while left:
            free = [file for file in left if not left[file]]
            self.assertTrue(free, left)
            left = {file: left[file] - set(free) for file in left if file not in free}

    def test_no_name_has_two_meanings_and_all_imports_are_used(self):
        for file in FILES:
            names = [node for node in ast.walk(ast.parse(source(file))) if isinstance(node, ast.Name)]
            stored = {node.id for node in names if isinstance(node.ctx, ast.Store)}
            stored |= {node.arg for node in ast.walk(ast.parse(source(file))) if isinstance(node, ast.arg)}
            told = {name for _, name in imports(file)}
            self.assertFalse(stored & (told | set(dir(builtins))), file)
            if file != "__init__.py":
                self.assertLessEqual(told, {node.id for node in names if node.id not in stored}, file)

    def test_no_generator_expressions_where_a_list_is_due(self):
        # A class of the package has an __eq__, so L7 asks for lists here.
        for file in FILES:
            for node in ast.walk(ast.parse(source(file))):
                if isinstance(node, ast.Call) and isinstance(node.func, ast.Name):
                    if node.func.id in ("any", "all", "min", "max", "sum", "sorted"):
                        for argument in node.args:
                            self.assertNotIsInstance(argument, ast.GeneratorExp, file)
