"""The interface of the landed files, and the rules of form that can be read off the files."""

import ast
import builtins
import pathlib
import re
import unittest

PACKAGE = pathlib.Path(__file__).resolve().parent.parent / "oathmoot"

# What each file defines itself, with the parameters.
WITH_FAULTY = "network, *, faulty=()"
NODES_AND_FAULTY = "network, nodes, *, faulty=()"
FUNCTIONS = {
    "requirements": {
        "is_name": "value", "is_requirement": "value", "names_in": "requirement", "satisfies": "requirement, nodes",
        "blocks": "requirement, nodes", "dual": "requirement", "minimal_satisfying": "requirement",
        "minimal_blocking": "requirement",
    },
    "quorums": {
        "is_quorum": NODES_AND_FAULTY, "removal_order": NODES_AND_FAULTY, "largest_quorum": NODES_AND_FAULTY,
        "is_removal_order": "network, nodes, order, *, faulty=()", "minimal_quorums": WITH_FAULTY,
    },
    "intersection": {
        "intersection": WITH_FAULTY, "are_disjoint_quorums": "network, one, other, *, faulty=()",
        "is_intersection_certificate": "network, certificate, *, faulty=()",
    },
    "tolerance": {
        "tolerance": "network, faulty", "tolerated_sets": "network", "minimal_tolerated": "network, faulty",
        "closure": "network, faulty", "fatal_sets": "network", "guardian_sets": "network",
        "repairs": "network, faulty", "dependent_nodes": "network, faulty",
    },
    "messages": {"is_ballot": "value", "is_statement": "value", "is_message": "network, value"},
    "histories": {
        "is_valid_history": "network, faulty, events", "is_complete_history": "network, faulty, events",
        "justification": "network, faulty, events, node, ballot",
    },
    "exchange": {"exchange": "session, nodes"},
    "attacks": {
        "attack": "network, faulty", "is_attack": "network, faulty, steps", "mislead": "network, faulty, node",
        "misleads": "network, faulty, node, steps", "confirm_alone": "network, faulty, node",
        "confirms_alone": "network, faulty, node, steps",
    },
    "analysis": {
        "followers": "network, faulty, node", "explain_messages": "network, faulty, messages",
        "explains": "network, faulty, messages, events",
    },
    "completion": {"completion": "slot, faulty", "is_completion": "slot, faulty, steps"},
    "registry": {"replay": "operations", "migration": "one, other", "is_migration": "one, other, operations"},
    "formatting": {
        "format_requirement": "requirement", "parse_requirement": "text", "format_network": "network",
        "parse_network": "text", "format_message": "message", "parse_message": "text", "format_event": "event",
        "parse_event": "text",
    },
}
SESSION_QUERIES = {
    "all_events": "self", "copy": "self", "receive": "self, node, message", "messages_of": "self, node",
    "message_of": "self, node", "votes_of": "self, node", "accepted_by": "self, node", "confirmed_by": "self, node",
    "received_by": "self, node", "reason_of": "self, node, ballot",
}
METHODS = {
    "networks": {
        "Network": {
            "__init__": "self, rows=()", "node_names": "self", "as_rows": "self", "requirement_of": "self, name",
            "with_node": "self, name, requirement", "without_node": "self, name",
        },
    },
    "sessions": {
        "Session": {
            "__init__": "self, network, faulty=()", "vote": "self, node, ballot, answer", **SESSION_QUERIES,
        },
    },
    "slots": {
        "Slot": {
            "__init__": "self, network, faulty, values", **SESSION_QUERIES, "slot_values": "self",
            "session_copy": "self", "nominate": "self, node, value", "prepare": "self, node, number, value",
            "commit": "self, node, number, value", "nominated_for": "self, node",
            "is_prepared": "self, node, number, value", "decided_by": "self, node",
        },
    },
    "registry": {
        "Registry": {
            "__init__": "self", "current_network": "self", "open_slots": "self", "slot_copy": "self, name",
            "closed_slots": "self", "operations_in_effect": "self", "copy": "self", "join": "self, name, requirement",
            "change": "self, name, requirement", "leave": "self, name", "start": "self, slot, faulty, values",
            "close": "self, slot", "nominate": "self, slot, node, value",
            "prepare": "self, slot, node, number, value", "commit": "self, slot, node, number, value",
            "receive": "self, slot, node, message", "exchange": "self, slot, nodes", "undo": "self", "redo": "self",
            "undo_count": "self", "redo_count": "self",
        },
    },
    "console": {"Console": {"__init__": "self", "registry_copy": "self", "run": "self, line"}},
}
BARRED_WORDS = (
    "type typing typing_extensions enum Enum IntEnum StrEnum Flag IntFlag Generic Protocol ABC ABCMeta namedtuple "
    "NamedTuple TypedDict TYPE_CHECKING abstractmethod"
).split()
BARRED_PARTS = ("dataclass", "overload", "contextmanager")
BUILTINS = (
    "len range enumerate zip min max sum abs sorted reversed int str bool list tuple dict set isinstance ord repr any "
    "all divmod ValueError"
).split()
BUILTIN_METHODS = (
    "append clear copy count endswith extend find get index insert isalnum isalpha isdigit islower isspace isupper "
    "items join keys ljust lower lstrip partition pop remove replace reverse rfind rjust rpartition rsplit rstrip "
    "setdefault split splitlines startswith strip update upper values zfill bit_length"
).split()
# Kinds of syntax that the rules exclude, or that the package does without.
BARRED_SYNTAX = (
    ast.GeneratorExp, ast.Lambda, ast.Global, ast.Nonlocal, ast.AsyncFunctionDef, ast.Await, ast.Div, ast.AnnAssign,
    ast.Yield, ast.YieldFrom, ast.With, ast.Match, ast.NamedExpr, ast.Delete, ast.Mod, ast.Pow,
)


def parameters(function):
    return ast.unparse(function.args)


def functions_of(body):
    return {item.name: item for item in body if isinstance(item, ast.FunctionDef)}


class InterfaceTest(unittest.TestCase):

    def tree(self, name):
        return ast.parse((PACKAGE / f"{name}.py").read_text())

    def test_functions(self):
        for file, functions in FUNCTIONS.items():
            found = functions_of(self.tree(file).body)
            for name, arguments in functions.items():
                self.assertEqual(parameters(found[name]), arguments, name)

    def test_methods(self):
        for file, classes in METHODS.items():
            found = {item.name: item for item in self.tree(file).body if isinstance(item, ast.ClassDef)}
            for name, methods in classes.items():
                own = functions_of(found[name].body)
                for method, arguments in methods.items():
                    self.assertEqual(parameters(own[method]), arguments, method)


class FormTest(unittest.TestCase):

    def setUp(self):
        self.texts = {path.name: path.read_text() for path in sorted(PACKAGE.glob("*.py"))}

    def test_the_folder_holds_python_files_only(self):
        for path in PACKAGE.iterdir():
            if path.name != "__pycache__":
                self.assertRegex(path.name, r"\A([a-z][a-z0-9_]*|__init__|__main__)\.py\Z")
        self.assertIn("__init__.py", self.texts)

    def test_characters(self):
        for name, text in self.texts.items():
            self.assertRegex(text, r"\A[\n -~]*\Z", name)

    def test_sizes(self):
        for name, text in self.texts.items():
            lines = text.split("\n")
            self.assertLessEqual(len(lines), 399, name)
            self.assertLessEqual(max(len(line) for line in lines), 120, name)
            for item in ast.walk(ast.parse(text)):
                if isinstance(item, ast.FunctionDef):
                    self.assertLessEqual(item.end_lineno - item.lineno + 1, 40, item.name)

    def test_barred_words(self):
        for name, text in self.texts.items():
            words = re.findall(r"\w+", text)
            self.assertEqual([word for word in words if word in BARRED_WORDS], [], name)
            self.assertEqual([part for part in BARRED_PARTS if part in text], [], name)
            self.assertNotIn("%", text, name)

    def test_imports_name_the_file_that_defines(self):
        for name, text in self.texts.items():
            for item in ast.walk(ast.parse(text)):
                self.assertNotIsInstance(item, ast.Import, name)
                if isinstance(item, ast.ImportFrom):
                    self.assertRegex(item.module, r"\Aoathmoot\.[a-z]+\Z")
                    defined = self.defined_in(item.module.split(".")[1])
                    for alias in item.names:
                        self.assertIn(alias.name, defined, name)

    def test_barred_syntax(self):
        for name, text in self.texts.items():
            for item in ast.walk(ast.parse(text)):
                self.assertNotIsInstance(item, BARRED_SYNTAX, name)
                if isinstance(item, ast.Constant):
                    self.assertNotIsInstance(item.value, (float, complex), name)
                if isinstance(item, (ast.FunctionDef, ast.ClassDef)):
                    self.assertEqual(item.decorator_list, [], name)
                if isinstance(item, ast.Compare) and isinstance(item.ops[0], (ast.Is, ast.IsNot)):
                    self.assertIsNone(item.comparators[0].value, name)

    def test_module_level(self):
        for name, text in self.texts.items():
            tree = ast.parse(text)
            bound, above = [], []
            for item in tree.body:
                self.assertIsInstance(item, (ast.Expr, ast.ImportFrom, ast.FunctionDef, ast.ClassDef, ast.Assign), name)
                if isinstance(item, ast.Expr):
                    self.assertIs(item, tree.body[0], name)
                    self.assertIsInstance(item.value.value, str)
                elif isinstance(item, ast.ImportFrom):
                    bound.extend(alias.asname or alias.name for alias in item.names)
                elif isinstance(item, ast.Assign):
                    self.assertEqual([ast.Name], [kind for kind in map(type, item.targets)], name)
                    bound.append(item.targets[0].id)
                    self.check_plain(item.value, above, 0)
                else:
                    bound.append(item.name)
                    above.append(item.name)
            self.assertEqual(len(bound), len(set(bound)), name)
            self.assertEqual(set(bound) & set(dir(builtins)), set(), name)

    def check_plain(self, value, above, depth):
        """A plain value: literals, tuples of such, dicts and lists at the top, and functions defined above."""
        if isinstance(value, ast.Name):
            self.assertIn(value.id, above)
        elif isinstance(value, ast.Tuple):
            for entry in value.elts:
                self.check_plain(entry, above, depth + 1)
        elif isinstance(value, ast.Dict):
            self.assertEqual(depth, 0)
            for entry in (*value.keys, *value.values):
                self.check_plain(entry, above, depth + 1)
        else:
            self.assertIsInstance(value, ast.Constant)

    def test_functions_stand_in_files_and_classes_only(self):
        for name, text in self.texts.items():
            for item in ast.walk(ast.parse(text)):
                if isinstance(item, ast.FunctionDef):
                    inside = [inner for inner in ast.walk(item) if inner is not item]
                    barred = (ast.FunctionDef, ast.ClassDef, ast.Import, ast.ImportFrom)
                    self.assertEqual([inner for inner in inside if isinstance(inner, barred)], [], name)

    def test_only_own_errors_are_caught(self):
        for name, text in self.texts.items():
            for item in ast.walk(ast.parse(text)):
                if isinstance(item, ast.Try):
                    self.assertEqual((item.orelse, item.finalbody), ([], []), name)
                    for handler in item.handlers:
                        self.assertEqual(ast.unparse(handler.type), "MootError", name)
                        self.assertIsNone(handler.name, name)

    def test_stars_stand_before_names_and_attributes(self):
        for name, text in self.texts.items():
            for item in ast.walk(ast.parse(text)):
                if isinstance(item, ast.Starred):
                    self.assertIsInstance(item.value, (ast.Name, ast.Attribute), name)

    def test_names(self):
        for name, text in self.texts.items():
            tree = ast.parse(text)
            imported = {alias.name for item in tree.body if isinstance(item, ast.ImportFrom) for alias in item.names}
            classes = {item.name for item in tree.body if isinstance(item, ast.ClassDef)}
            assigned = {item.id for item in ast.walk(tree)
                        if isinstance(item, ast.Name) and isinstance(item.ctx, ast.Store)}
            assigned |= {item.arg for item in ast.walk(tree) if isinstance(item, ast.arg)}
            self.assertEqual(assigned & (imported | classes | set(dir(builtins))), set(), name)
            self.assertEqual([word for word in assigned if word.startswith("_")], [], name)
            read = {item.id for item in ast.walk(tree) if isinstance(item, ast.Name)}
            known = set(self.defined_in(name[:-3])) | imported | assigned | set(BUILTINS)
            self.assertEqual(read - known, set(), name)

    def test_attributes_and_methods(self):
        trees = [ast.parse(text) for text in self.texts.values()]
        items = [item for tree in trees for item in ast.walk(tree)]
        methods = {method for item in items if isinstance(item, ast.ClassDef) for method in functions_of(item.body)}
        stored = {item.attr for item in items if isinstance(item, ast.Attribute) and isinstance(item.ctx, ast.Store)}
        read = {item.attr for item in items if isinstance(item, ast.Attribute)}
        self.assertEqual(methods & stored, set())
        self.assertEqual(read - methods - stored - set(BUILTIN_METHODS), set())
        self.assertEqual(stored & set(dir(str) + dir(list) + dir(dict) + dir(set) + dir(int) + dir(bytes)) - {"index"},
                         set())

    def test_no_file_imports_itself_through_others(self):
        imports = {}
        for name, text in self.texts.items():
            imports[name[:-3]] = {
                item.module.split(".")[1] for item in ast.walk(ast.parse(text)) if isinstance(item, ast.ImportFrom)
            }
        for name in imports:
            reached = set()
            waiting = list(imports[name])
            while waiting:
                file = waiting.pop()
                if file not in reached:
                    reached.add(file)
                    waiting.extend(imports[file])
            self.assertNotIn(name, reached)

    def defined_in(self, file):
        found = []
        for item in ast.parse(self.texts[f"{file}.py"]).body:
            if isinstance(item, (ast.FunctionDef, ast.ClassDef)):
                found.append(item.name)
            elif isinstance(item, ast.Assign):
                found.append(item.targets[0].id)
        return found


if __name__ == "__main__":
    unittest.main()
