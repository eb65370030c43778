"""The names and arguments that the interface of ../shared/DOC.md lists."""

import importlib
import inspect
import unittest

FUNCTIONS = {
    "rows": {"is_row": "thing", "values": "row width words", "worth": "row width words", "cost": "row costs"},
    "carries": {"first_carry": "row", "bits_of": "row carry bits", "next_carry": "row carry bits", "carries": "row"},
    "alike": {"alike": "row other", "is_closed": "row other pairs"},
    "counts": {"how_often": "row other width", "how_many": "row width word"},
    "turning": {"turned": "row", "is_turning": "row carries", "gone_back": "row width word"},
    "machines": {"least_machine": "row", "told_by": "machine width words", "parting": "machine one other"},
    "atmost": {"at_most": "row other", "is_never_greater": "row other triples"},
    "mending": {"fitting": "row", "put_otherwise": "row rule value", "mended": "row", "is_chain": "row thing"},
    "joining": {"put_together": "row rows"},
}


class Interface(unittest.TestCase):
    def test_functions(self):
        for module, functions in FUNCTIONS.items():
            made = importlib.import_module(f"anywide.{module}")
            for name, arguments in functions.items():
                function = getattr(made, name)
                self.assertTrue(inspect.isfunction(function), name)
                self.assertEqual(function.__module__, f"anywide.{module}")
                parameters = inspect.signature(function).parameters.values()
                self.assertEqual([parameter.name for parameter in parameters], arguments.split(), name)
                for parameter in parameters:
                    self.assertIs(parameter.kind, inspect.Parameter.POSITIONAL_OR_KEYWORD)
                    self.assertIs(parameter.default, inspect.Parameter.empty)


if __name__ == "__main__":
    unittest.main()
