import inspect
import unittest

from onereading import codes, errors, partings, reader, rests, waits, words

FUNCTIONS = [
    (words, {"is_word": ["thing"], "checked": ["words"], "left_of": ["text", "other"], "shared": ["text", "other"]}),
    (partings, {
        "counted": ["words", "text"], "parting": ["words", "text", "number"], "may_begin": ["words", "text"],
    }),
    (rests, {"stepped": ["rest", "word"], "least": ["words"], "double": ["words"]}),
    (waits, {"heights": ["words"], "wait": ["words"], "late": ["words"], "ring": ["words"]}),
]
CLASSES = [
    (reader.Reader, reader, {"__init__": ["words"], "put": ["sign"], "end": [], "many": []}),
    (codes.Code, codes, {
        "__init__": [], "put": ["word"], "take": ["word"], "words": [], "rests": [], "two": [], "waiting": [],
    }),
]


class InterfaceTest(unittest.TestCase):

    def test_functions_stand_in_their_files_with_their_arguments(self):
        for module, functions in FUNCTIONS:
            for name, arguments in functions.items():
                with self.subTest(name):
                    function = getattr(module, name)
                    self.assertEqual(function.__module__, module.__name__)
                    self.assertEqual(list(inspect.signature(function).parameters), arguments)

    def test_classes_stand_in_their_files_and_have_their_methods_themselves(self):
        for kind, module, methods in CLASSES:
            self.assertEqual(kind.__module__, module.__name__)
            for name, arguments in methods.items():
                with self.subTest(name):
                    self.assertIn(name, vars(kind))
                    self.assertEqual(list(inspect.signature(vars(kind)[name]).parameters), ["self"] + arguments)

    def test_the_refusals_are_those_of_the_one_file(self):
        for module in (words, partings, reader, waits, codes):
            for name, kind in vars(module).items():
                if inspect.isclass(kind) and issubclass(kind, ValueError):
                    self.assertIs(kind, getattr(errors, name))


if __name__ == "__main__":
    unittest.main()
