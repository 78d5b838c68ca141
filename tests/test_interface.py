"""The interface: the functions' names and parameters as the document has them."""

import inspect
import unittest

from ferryrows import rows

PARAMETERS = {
    "row": ["t"],
    "ask": ["what", "t"],
    "form": ["t"],
    "tags": ["t"],
    "cut": ["start", "to", "t"],
    "unit": ["k", "t"],
    "fits": ["s", "t"],
    "doc": ["t"],
    "line": ["k", "t"],
    "count": ["t"],
}


class Interface(unittest.TestCase):
    def test_names_and_parameters(self):
        for name, expected in PARAMETERS.items():
            signature = inspect.signature(getattr(rows, name))
            self.assertEqual(list(signature.parameters), expected, name)
            for parameter in signature.parameters.values():
                self.assertEqual(parameter.kind, inspect.Parameter.POSITIONAL_OR_KEYWORD)
                self.assertEqual(parameter.default, inspect.Parameter.empty)

    def test_arguments_by_their_names(self):
        arguments = {"what": 0, "start": 0, "to": 0, "k": 0}
        for name, expected in PARAMETERS.items():
            given = {parameter: arguments.get(parameter, []) for parameter in expected}
            in_order = [given[parameter] for parameter in expected]
            function = getattr(rows, name)
            self.assertEqual(function(**given), function(*in_order))


if __name__ == "__main__":
    unittest.main()
