"""What the tests of refusals and of what is handed in have in common."""

import copy
import unittest

from anywide.errors import WideError


class Asked(unittest.TestCase):
    def asked(self, function, *arguments):
        """What the function tells; nothing that is handed in may be changed by it."""
        before = copy.deepcopy(arguments)
        looks = repr(arguments)
        result = function(*arguments)
        self.assertEqual(arguments, before)
        self.assertEqual(repr(arguments), looks)
        return result

    def refused(self, refusal, function, *arguments):
        """The function refuses with this very class."""
        looks = repr(arguments)
        with self.assertRaises(WideError) as caught:
            function(*arguments)
        self.assertIs(type(caught.exception), refusal)
        self.assertEqual(repr(arguments), looks)
