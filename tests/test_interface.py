"""Names, arguments and files of what the document's interface lists, as far as it has been built."""
import ast
import importlib
import inspect
import pathlib
import unittest

PACKAGE = pathlib.Path(__file__).resolve().parent.parent / "deltaloom"

FUNCTIONS = {
    "values": {"wrap": ["n"], "rank": ["value"], "row_rank": ["row"]},
    "bags": {
        "make_bag": ["pairs"],
        "plus": ["first", "second"],
        "minus": ["first", "second"],
        "scaled": ["bag", "factor"],
        "count_of": ["bag", "row"],
        "rows_of": ["bag"],
        "support": ["bag"],
        "set_bag": ["rows"],
    },
    "exprs": {"evaluate": ["e", "row"], "mapped": ["exprs", "row"]},
    "terms": {"names_in": ["term"], "new_form": ["term"], "value": ["term", "olds", "changes"]},
    "rules": {
        "least_set": ["rules", "own", "sets"],
        "updated_set": ["rules", "own", "olds", "news", "rows"],
    },
    "programs": {"sources": ["view"], "evaluate_program": ["program", "inputs"]},
    "deriving": {"derivative": ["term"], "derivative_paper": ["term"]},
    "rewriting": {
        "other_side": ["identity", "forward", "term", "extra"],
        "subterm": ["term", "position"],
        "rewritten": ["term", "step"],
        "paper_right": ["paper"],
    },
    "simplifying": {"simplified": ["term"]},
}
CLASSES = {"errors": ["LoomError", "FormError", "SizeError", "NameUnknown", "NameTaken"]}


def defined(module, kind):
    """The names that a file of the package defines itself."""
    tree = ast.parse((PACKAGE / f"{module}.py").read_text())
    return [node.name for node in tree.body if isinstance(node, kind)]


class Interface(unittest.TestCase):
    def test_functions_stand_in_their_files(self):
        for module in FUNCTIONS:
            names = defined(module, ast.FunctionDef)
            for name in FUNCTIONS[module]:
                self.assertIn(name, names)

    def test_functions_take_the_listed_arguments(self):
        for module in FUNCTIONS:
            held = importlib.import_module(f"deltaloom.{module}")
            for name, arguments in FUNCTIONS[module].items():
                parameters = inspect.signature(getattr(held, name)).parameters
                self.assertEqual(list(parameters), arguments, name)
                for parameter in parameters.values():
                    self.assertEqual(parameter.kind, parameter.POSITIONAL_OR_KEYWORD)
                    self.assertIs(parameter.default, parameter.empty)

    def test_classes_stand_in_their_files(self):
        for module in CLASSES:
            names = defined(module, ast.ClassDef)
            for name in CLASSES[module]:
                self.assertIn(name, names)


if __name__ == "__main__":
    unittest.main()
