"""The interface: each name under the file that lists it, with its arguments, and methods in the classes themselves."""

import inspect
import unittest

from lookcrowd import crowds, errors, families, readings, rules, settling, texts, ways

FUNCTIONS = {
    rules: {"can_do": ["book", "crowd"], "done": ["book", "crowd", "rule"], "follow": ["book", "crowd", "run"],
            "follows": ["book", "rule"], "needless": ["book"], "least_rules": ["book"],
            "first_unlike": ["one", "other"]},
    ways: {"led_to": ["book", "family"], "leads_into": ["book", "family"], "one_look": ["book", "family"],
           "is_closed": ["book", "family"], "stays": ["book", "family"], "can_become": ["book", "family", "goal"],
           "run_to": ["book", "crowd", "goal"], "witness": ["book", "family", "goal"],
           "judge": ["book", "family", "goal", "paper"]},
    settling: {"settled": ["book", "goal"], "settles": ["book", "family", "goal"],
               "unsettled": ["book", "family", "goal"], "rests": ["book"], "may_rest": ["book"],
               "surely_rests": ["book"], "judge_settled": ["book", "family", "goal", "led", "safe"]},
    texts: {"show_family": ["family"], "show_book": ["book"]},
    readings: {"read_family": ["text"], "read_book": ["text"]},
}
CLASSES = [
    (families, "Family", ["kinds", "boxes"], {"has": ["crowd"], "first": [], "bound": [], "within": ["other"]},
     ["kinds", "boxes"], ["__len__", "__eq__", "__and__", "__or__", "__sub__", "__invert__"]),
    (rules, "Book", ["kinds", "rules"], {"without": ["rule"]}, ["kinds", "rules"], ["__len__", "__eq__"]),
    (crowds, "Crowd", ["book", "counts"],
     {"__call__": ["kind", "seen", "new"], "able": [], "lies_in": ["family"], "admit": ["kind", "many"], "undo": []},
     ["counts", "run"], ["__getitem__", "__len__", "__eq__"]),
]
ERRORS = ["CrowdError", "InvalidName", "DoubleName", "InvalidRule", "DoubleRule", "InvalidBox", "InvalidCrowd",
          "UnlikeKinds", "NotAble", "NothingToUndo", "Unreadable"]


def names_of(called):
    return list(inspect.signature(called).parameters)


class Interface(unittest.TestCase):

    def test_functions(self):
        for module, functions in FUNCTIONS.items():
            for name, arguments in functions.items():
                function = getattr(module, name)
                self.assertTrue(inspect.isfunction(function))
                self.assertEqual(function.__module__, module.__name__)
                self.assertEqual(names_of(function), arguments)

    def test_classes(self):
        for module, name, arguments, methods, properties, signs in CLASSES:
            found = getattr(module, name)
            self.assertTrue(inspect.isclass(found))
            self.assertEqual(found.__module__, module.__name__)
            self.assertEqual(names_of(found), arguments)
            for method, given in methods.items():
                self.assertEqual(names_of(vars(found)[method])[1:], given)
            for told in properties:
                self.assertIsInstance(vars(found)[told], property)
            for sign in signs:
                self.assertIn(sign, vars(found))

    def test_one_member_joins_if_no_number_is_given(self):
        self.assertEqual(inspect.signature(crowds.Crowd.admit).parameters["many"].default, 1)

    def test_errors(self):
        for name in ERRORS:
            found = getattr(errors, name)
            self.assertTrue(issubclass(found, ValueError))
            self.assertEqual(found.__module__, "lookcrowd.errors")
            self.assertEqual(names_of(found.__init__)[1:], ["value"])


if __name__ == "__main__":
    unittest.main()
