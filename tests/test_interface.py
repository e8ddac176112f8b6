"""Names, arguments and files of what the document's interface lists, as far as it has been built."""
import ast
import importlib
import inspect
import pathlib
import unittest

from deltaloom.disks import Disk, Store
from deltaloom.errors import NameTaken, NameUnknown
from deltaloom.looms import Loom

PACKAGE = pathlib.Path(__file__).resolve().parent.parent / "deltaloom"

FUNCTIONS = {
    "values": {"wrap": ["n"], "rank": ["value"], "row_rank": ["row"]},
    "bags": {
        "make_bag": ["pairs"],
        "plus": ["first", "second"],
        "minus": ["first", "second"],
        "scaled": ["bag", "factor"],
        "count_of": ["bag", "row"],
        "rows_of": ["bag"],
        "support": ["bag"],
        "set_bag": ["rows"],
    },
    "exprs": {"evaluate": ["e", "row"], "mapped": ["exprs", "row"]},
    "terms": {"names_in": ["term"], "new_form": ["term"], "value": ["term", "olds", "changes"]},
    "rules": {
        "least_set": ["rules", "own", "sets"],
        "updated_set": ["rules", "own", "olds", "news", "rows"],
    },
    "programs": {"sources": ["view"], "evaluate_program": ["program", "inputs"]},
    "deriving": {"derivative": ["term"], "derivative_paper": ["term"]},
    "rewriting": {
        "other_side": ["identity", "forward", "term", "extra"],
        "subterm": ["term", "position"],
        "rewritten": ["term", "step"],
        "paper_right": ["paper"],
    },
    "simplifying": {"simplified": ["term"]},
    "written": {
        "format_value": ["value"],
        "format_row": ["row"],
        "format_bag": ["bag"],
        "format_change": ["change"],
        "parse_row": ["text"],
        "parse_bag": ["text"],
        "parse_change": ["text"],
    },
    "disks": {"check_number": ["data"], "encode_change": ["change"], "read_changes": ["data"]},
}
CLASSES = {
    "errors": ["LoomError", "FormError", "SizeError", "NameUnknown", "NameTaken"],
    "looms": ["Loom"],
    "disks": ["Disk", "Store"],
    "branches": ["Tree"],
}
METHODS = {
    ("looms", "Loom"): {"__init__": ["program"], "feed": ["name", "change"], "refresh": ["name"], "read": ["name"]},
    ("disks", "Disk"): {"__init__": [], "append": ["change"], "sync": [], "crash": ["kept", "junk"], "recover": []},
    ("disks", "Store"): {"__init__": ["make", "disk"], "feed": ["change"]},
    ("branches", "Tree"): {
        "__init__": ["names"],
        "inputs": ["branch"],
        "feed": ["branch", "name", "change"],
        "fork": ["parent", "branch"],
        "change": ["branch", "name"],
        "merge": ["branch"],
    },
}


def defined(module, kind):
    """The names that a file of the package defines itself."""
    tree = ast.parse((PACKAGE / f"{module}.py").read_text())
    return [node.name for node in tree.body if isinstance(node, kind)]


class Interface(unittest.TestCase):
    def test_functions_stand_in_their_files(self):
        for module in FUNCTIONS:
            names = defined(module, ast.FunctionDef)
            for name in FUNCTIONS[module]:
                self.assertIn(name, names)

    def test_functions_take_the_listed_arguments(self):
        for module in FUNCTIONS:
            held = importlib.import_module(f"deltaloom.{module}")
            for name, arguments in FUNCTIONS[module].items():
                self.check_parameters(getattr(held, name), arguments)

    def check_parameters(self, function, arguments):
        parameters = inspect.signature(function).parameters
        self.assertEqual(list(parameters), arguments, function)
        for parameter in parameters.values():
            self.assertEqual(parameter.kind, parameter.POSITIONAL_OR_KEYWORD)
            self.assertIs(parameter.default, parameter.empty)

    def test_classes_stand_in_their_files(self):
        for module in CLASSES:
            names = defined(module, ast.ClassDef)
            for name in CLASSES[module]:
                self.assertIn(name, names)

    def test_methods_stand_in_their_classes_and_take_the_listed_arguments(self):
        for module, name in METHODS:
            held = getattr(importlib.import_module(f"deltaloom.{module}"), name)
            for method, arguments in METHODS[module, name].items():
                self.assertIn(method, vars(held))
                self.check_parameters(vars(held)[method], ["self"] + arguments)

    def test_attributes_are_set_when_an_object_is_created(self):
        disk = Disk()
        self.assertLessEqual({"data", "safe"}, set(vars(disk)))
        loom = Loom(("program", [], []))
        store = Store(lambda: loom, disk)
        self.assertLessEqual({"disk", "loom"}, set(vars(store)))
        self.assertEqual(NameUnknown("a").name, "a")
        self.assertEqual(NameTaken("a").name, "a")


if __name__ == "__main__":
    unittest.main()
