"""The interface of the landed files, and the rules of form that can be read off the files."""

import ast
import pathlib
import re
import unittest

PACKAGE = pathlib.Path(__file__).resolve().parent.parent / "oathmoot"

# What each file defines itself, with the names of the parameters.
FUNCTIONS = {
    "requirements": {
        "is_name": "value", "is_requirement": "value", "names_in": "requirement", "satisfies": "requirement nodes",
        "blocks": "requirement nodes", "dual": "requirement", "minimal_satisfying": "requirement",
        "minimal_blocking": "requirement",
    },
}
METHODS = {
    "networks": {
        "Network": {
            "__init__": "rows", "node_names": "", "as_rows": "", "requirement_of": "name",
            "with_node": "name requirement", "without_node": "name",
        },
    },
}
BARRED_WORDS = (
    "type typing typing_extensions enum Enum IntEnum StrEnum Flag IntFlag Generic Protocol ABC ABCMeta namedtuple "
    "NamedTuple TypedDict TYPE_CHECKING abstractmethod"
).split()
BARRED_PARTS = ("dataclass", "overload", "contextmanager")


def parameters(function):
    return [parameter.arg for parameter in function.args.args]


def functions_of(body):
    return {item.name: item for item in body if isinstance(item, ast.FunctionDef)}


class InterfaceTest(unittest.TestCase):

    def tree(self, name):
        return ast.parse((PACKAGE / f"{name}.py").read_text())

    def test_functions(self):
        for file, functions in FUNCTIONS.items():
            found = functions_of(self.tree(file).body)
            for name, arguments in functions.items():
                self.assertEqual(parameters(found[name]), arguments.split(), name)

    def test_methods(self):
        for file, classes in METHODS.items():
            found = {item.name: item for item in self.tree(file).body if isinstance(item, ast.ClassDef)}
            for name, methods in classes.items():
                own = functions_of(found[name].body)
                for method, arguments in methods.items():
                    self.assertEqual(parameters(own[method]), ["self", *arguments.split()], method)


class FormTest(unittest.TestCase):

    def setUp(self):
        self.texts = {path.name: path.read_text() for path in sorted(PACKAGE.glob("*.py"))}

    def test_the_folder_holds_python_files_only(self):
        for path in PACKAGE.iterdir():
            if path.name != "__pycache__":
                self.assertRegex(path.name, r"\A([a-z][a-z0-9_]*|__init__|__main__)\.py\Z")
        self.assertIn("__init__.py", self.texts)

    def test_characters(self):
        for name, text in self.texts.items():
            self.assertRegex(text, r"\A[\n -~]*\Z", name)

    def test_sizes(self):
        for name, text in self.texts.items():
            lines = text.split("\n")
            self.assertLessEqual(len(lines), 399, name)
            self.assertLessEqual(max(len(line) for line in lines), 120, name)
            for item in ast.walk(ast.parse(text)):
                if isinstance(item, ast.FunctionDef):
                    self.assertLessEqual(item.end_lineno - item.lineno + 1, 40, item.name)

    def test_barred_words(self):
        for name, text in self.texts.items():
            words = re.findall(r"\w+", text)
            self.assertEqual([word for word in words if word in BARRED_WORDS], [], name)
            self.assertEqual([part for part in BARRED_PARTS if part in text], [], name)
            self.assertNotIn("%", text, name)

    def test_imports_name_the_file_that_defines(self):
        for name, text in self.texts.items():
            for item in ast.walk(ast.parse(text)):
                self.assertNotIsInstance(item, ast.Import, name)
                if isinstance(item, ast.ImportFrom):
                    self.assertRegex(item.module, r"\Aoathmoot\.[a-z]+\Z")
                    defined = self.defined_in(item.module.split(".")[1])
                    for alias in item.names:
                        self.assertIn(alias.name, defined, name)

    def defined_in(self, file):
        found = []
        for item in ast.parse(self.texts[f"{file}.py"]).body:
            if isinstance(item, (ast.FunctionDef, ast.ClassDef)):
                found.append(item.name)
            elif isinstance(item, ast.Assign):
                found.append(item.targets[0].id)
        return found


if __name__ == "__main__":
    unittest.main()
