import inspect
import unittest

from sackset import sacks, sets, texts

SACK_METHODS = {
    "form": ["self"],
    "kind": ["self"],
    "weight": ["self"],
    "count": ["self"],
    "lows": ["self"],
    "has": ["self", "low"],
}

# By each name of a method its arguments, with the worth where one is left out.
SET_METHODS = {
    "__init__": [("numbers", None)],
    "put": ["number"],
    "drop": ["number"],
    "has": ["number"],
    "put_all": ["first", ("last", None)],
    "drop_all": ["first", ("last", None)],
    "turn": ["first", ("last", None)],
    "count": [],
    "below": ["number"],
    "numbers": [("first", 0), ("last", 16777215)],
    "sacks": [],
    "at": ["rank"],
    "next_from": [("number", 0)],
    "last_to": [("number", 16777215)],
}

FUNCTIONS = [
    (sacks, "sack_of", ["lows"]),
    (sets, "joined", ["one", "other"]),
    (sets, "met", ["one", "other"]),
    (sets, "less", ["one", "other"]),
    (sets, "apart", ["one", "other"]),
    (sets, "same", ["one", "other"]),
    (sets, "within", ["one", "other"]),
    (texts, "written", ["numbers"]),
    (texts, "read", ["text"]),
]

CLASSES = [
    (sacks, "Sack"), (sacks, "RowSack"), (sacks, "RunsSack"), (sacks, "BitsSack"),
    (sets, "NumberSet"),
]


def arguments(function):
    """Its arguments, as they are told above."""
    told = inspect.signature(function).parameters.values()
    return [one.name if one.default is one.empty else (one.name, one.default) for one in told]


class Interface(unittest.TestCase):
    def test_all_stand_in_their_files(self):
        for module, name in CLASSES + [row[:2] for row in FUNCTIONS]:
            with self.subTest(name):
                thing = getattr(module, name)
                self.assertEqual(thing.__module__, module.__name__)
                self.assertEqual(thing.__name__, name)

    def test_functions(self):
        for module, name, wanted in FUNCTIONS:
            with self.subTest(name):
                self.assertEqual(arguments(getattr(module, name)), wanted)

    def test_methods_stand_in_sack_itself(self):
        for name, wanted in SACK_METHODS.items():
            with self.subTest(name):
                self.assertIn(name, vars(sacks.Sack))
                self.assertEqual(arguments(vars(sacks.Sack)[name]), wanted)

    def test_methods_take_the_same_in_each_kind(self):
        for kind in (sacks.RowSack, sacks.RunsSack, sacks.BitsSack):
            for name, wanted in SACK_METHODS.items():
                with self.subTest(kind.__name__, name=name):
                    self.assertEqual(arguments(getattr(kind, name)), wanted)

    def test_methods_stand_in_number_set_itself(self):
        for name, wanted in SET_METHODS.items():
            with self.subTest(name):
                self.assertIn(name, vars(sets.NumberSet))
                self.assertEqual(arguments(vars(sets.NumberSet)[name]), ["self"] + wanted)


if __name__ == "__main__":
    unittest.main()
