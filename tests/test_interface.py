import inspect
import unittest

from sackset import sacks

METHODS = {
    "form": ["self"],
    "kind": ["self"],
    "weight": ["self"],
    "count": ["self"],
    "lows": ["self"],
    "has": ["self", "low"],
}


class Interface(unittest.TestCase):
    def test_all_stand_in_this_file(self):
        for name in ("Sack", "RowSack", "RunsSack", "BitsSack", "sack_of"):
            with self.subTest(name):
                thing = getattr(sacks, name)
                self.assertEqual(thing.__module__, "sackset.sacks")
                self.assertEqual(thing.__name__, name)

    def test_methods_stand_in_sack_itself(self):
        for name, arguments in METHODS.items():
            with self.subTest(name):
                self.assertIn(name, vars(sacks.Sack))
                method = vars(sacks.Sack)[name]
                self.assertEqual(list(inspect.signature(method).parameters), arguments)

    def test_methods_take_the_same_in_each_kind(self):
        for kind in (sacks.RowSack, sacks.RunsSack, sacks.BitsSack):
            for name, arguments in METHODS.items():
                with self.subTest(kind.__name__, name=name):
                    method = getattr(kind, name)
                    self.assertEqual(list(inspect.signature(method).parameters), arguments)

    def test_sack_of_takes_one_list(self):
        self.assertEqual(list(inspect.signature(sacks.sack_of).parameters), ["lows"])


if __name__ == "__main__":
    unittest.main()
