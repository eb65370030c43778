"""The names and arguments that the interface of ../shared/DOC.md lists."""

import importlib
import inspect
import unittest

FUNCTIONS = {
    "rows": {"is_row": "thing", "values": "row width words", "worth": "row width words", "cost": "row costs"},
    "carries": {"first_carry": "row", "bits_of": "row carry bits", "next_carry": "row carry bits", "carries": "row"},
    "alike": {"alike": "row other", "is_closed": "row other pairs"},
    "counts": {"how_often": "row other width", "how_many": "row width word"},
    "turning": {"turned": "row", "is_turning": "row carries", "gone_back": "row width word"},
    "machines": {"least_machine": "row", "told_by": "machine width words", "parting": "machine one other"},
    "atmost": {"at_most": "row other", "is_never_greater": "row other triples"},
    "mending": {"fitting": "row", "put_otherwise": "row rule value", "mended": "row", "is_chain": "row thing"},
    "joining": {"put_together": "row rows"},
    "texts": {"show_row": "row", "read_row": "text"},
    "extremes": {"greatest_worth": "row width", "least_worth": "row width", "greatest_ahead": "row other width"},
}
CLASSES = {
    "book": ("Book", {"tell": "name row", "forget": "name", "back": "", "row": "name", "names": "", "kinds": ""}),
    "desk": ("Desk", {"say": "row"}),
}


class Interface(unittest.TestCase):
    def takes(self, function, arguments):
        parameters = inspect.signature(function).parameters.values()
        self.assertEqual([parameter.name for parameter in parameters], arguments.split(), function)
        for parameter in parameters:
            self.assertIs(parameter.kind, inspect.Parameter.POSITIONAL_OR_KEYWORD)
            self.assertIs(parameter.default, inspect.Parameter.empty)

    def test_functions(self):
        for module, functions in FUNCTIONS.items():
            made = importlib.import_module(f"anywide.{module}")
            for name, arguments in functions.items():
                function = getattr(made, name)
                self.assertTrue(inspect.isfunction(function), name)
                self.assertEqual(function.__module__, f"anywide.{module}")
                self.takes(function, arguments)

    def test_classes(self):
        for module, (name, methods) in CLASSES.items():
            made = getattr(importlib.import_module(f"anywide.{module}"), name)
            self.assertTrue(inspect.isclass(made), name)
            self.assertEqual(made.__module__, f"anywide.{module}")
            self.takes(made, "")
            for method, arguments in methods.items():
                # Defined in the class itself, not only in a base class.
                self.assertTrue(inspect.isfunction(vars(made)[method]), method)
                self.takes(getattr(made(), method), arguments)


if __name__ == "__main__":
    unittest.main()
