"""Points 4, 5 and 3: sack_of, the methods of a sack, its class, and who owns what."""

import unittest

from sackset.errors import NoNumber
from sackset.sacks import BitsSack, RowSack, RunsSack, Sack, sack_of
from samples import CLASSES, NO_LOWS, each_sample, mixed, some_of_each_kind, told_form


class Making(unittest.TestCase):
    def test_any_order_tells_the_same_sack(self):
        for kind, lows in each_sample():
            for told in (lows, lows[::-1], mixed(lows), lows[::2] + lows[1::2]):
                with self.subTest(kind, told=told):
                    sack = sack_of(told)
                    self.assertEqual(sack.form(), told_form(lows))
                    self.assertEqual(sack.lows(), lows)

    def test_things_told_several_times_count_once(self):
        for kind, lows in each_sample():
            thrice = [low for low in lows for _ in range(3)]
            for told in (lows + lows, lows + lows[::-1], thrice, mixed(lows) + lows[:1] * 40):
                with self.subTest(kind, told=told):
                    sack = sack_of(told)
                    self.assertEqual(sack.form(), told_form(lows))
                    self.assertEqual(sack.lows(), lows)
                    self.assertEqual(sack.count(), len(lows))

    def test_one_told_a_hundred_times(self):
        self.assertEqual(sack_of([9] * 100).form(), ("row", (9,)))

    def test_two_sacks_are_free_of_each_other(self):
        one = sack_of([1, 2, 3])
        other = sack_of([200])
        self.assertEqual(one.lows(), [1, 2, 3])
        self.assertEqual(other.lows(), [200])


class Telling(unittest.TestCase):
    def test_kind_and_weight_are_those_of_the_form(self):
        for kind, lows in each_sample():
            with self.subTest(kind, lows=lows):
                sack = sack_of(lows)
                told = sack.form()[1]
                weight = {"row": len(told), "runs": 2 * len(told), "bits": 32}[kind]
                self.assertEqual(sack.kind(), kind)
                self.assertEqual(sack.weight(), weight)

    def test_count(self):
        for kind, lows in each_sample():
            with self.subTest(kind, lows=lows):
                self.assertEqual(sack_of(lows).count(), len(lows))

    def test_lows(self):
        for kind, lows in each_sample():
            with self.subTest(kind, lows=lows):
                self.assertEqual(sack_of(lows).lows(), lows)

    def test_has_at_each_of_the_256(self):
        for kind, lows in each_sample():
            sack = sack_of(lows)
            for low in range(256):
                with self.subTest(kind, lows=lows, low=low):
                    self.assertIs(sack.has(low), low in lows)

    def test_has_beyond_the_256_tells_false(self):
        for kind, lows in each_sample():
            sack = sack_of(lows)
            for low in (-257, -256, -64, -2, -1, 256, 257, 300, 10 ** 30):
                with self.subTest(kind, lows=lows, low=low):
                    self.assertIs(sack.has(low), False)

    def test_kinds_of_values(self):
        for kind, lows in each_sample():
            with self.subTest(kind, lows=lows):
                sack = sack_of(lows)
                self.assertIs(type(sack.kind()), str)
                self.assertIs(type(sack.weight()), int)
                self.assertIs(type(sack.count()), int)
                self.assertIs(type(sack.lows()), list)
                self.assertEqual({type(low) for low in sack.lows()}, {int})

    def test_asking_twice_tells_the_same(self):
        for kind, lows in each_sample():
            with self.subTest(kind, lows=lows):
                sack = sack_of(lows)
                self.assertEqual(sack.form(), sack.form())
                self.assertEqual(sack.lows(), sack.lows())
                self.assertEqual(sack.count(), sack.count())


class Refusing(unittest.TestCase):
    def refuse(self, told):
        with self.assertRaises(NoNumber) as caught:
            sack_of(told)
        self.assertIs(type(caught.exception), NoNumber)

    def test_an_empty_list(self):
        self.refuse([])

    def test_alone(self):
        for name, wrong in NO_LOWS:
            with self.subTest(name):
                self.refuse([wrong])
                self.refuse([wrong, wrong])

    def test_among_lower_parts(self):
        for kind, rows in some_of_each_kind().items():
            for lows in (rows[-1], [0, 1, 7]):
                for name, wrong in NO_LOWS:
                    half = len(lows) // 2
                    with self.subTest(kind, wrong=name, at="beginning"):
                        self.refuse([wrong] + lows)
                    with self.subTest(kind, wrong=name, at="midst"):
                        self.refuse(lows[:half] + [wrong] + lows[half:])
                    with self.subTest(kind, wrong=name, at="end"):
                        self.refuse(lows + [wrong])

    def test_the_ends_themselves_are_lower_parts(self):
        self.assertEqual(sack_of([255, 0]).lows(), [0, 255])


class Classes(unittest.TestCase):
    def test_each_stands_under_sack(self):
        for kind in (RowSack, RunsSack, BitsSack):
            with self.subTest(kind.__name__):
                self.assertTrue(issubclass(kind, Sack))

    def test_none_stands_under_another_one(self):
        for kind in CLASSES.values():
            for other in CLASSES.values():
                self.assertIs(issubclass(kind, other), kind is other)

    def test_class_by_kind(self):
        for kind, lows in each_sample():
            with self.subTest(kind, lows=lows):
                sack = sack_of(lows)
                self.assertIs(type(sack), CLASSES[kind])
                self.assertIsInstance(sack, Sack)
                for other in CLASSES:
                    self.assertIs(isinstance(sack, CLASSES[other]), other == kind)


class Owning(unittest.TestCase):
    def state(self, sack):
        answers = [sack.has(low) for low in range(256)]
        return sack.form(), sack.kind(), sack.weight(), sack.count(), sack.lows(), answers

    def test_the_list_handed_in_is_the_same_afterwards(self):
        for kind, lows in each_sample():
            for told in (lows, lows[::-1], mixed(lows), lows + lows):
                with self.subTest(kind, told=told):
                    handed = list(told)
                    self.state(sack_of(handed))
                    self.assertEqual(handed, told)

    def test_a_list_that_is_refused_is_the_same_afterwards(self):
        handed = [9, 3, 3, 256, 1]
        with self.assertRaises(NoNumber):
            sack_of(handed)
        self.assertEqual(handed, [9, 3, 3, 256, 1])

    def test_changing_the_list_later_changes_no_sack(self):
        for kind, lows in each_sample():
            with self.subTest(kind, lows=lows):
                handed = list(lows)
                sack = sack_of(handed)
                before = self.state(sack)
                handed.append(100)
                handed[0] = 101
                self.assertEqual(self.state(sack), before)
                handed.clear()
                self.assertEqual(self.state(sack), before)

    def test_changing_what_lows_told_changes_no_sack(self):
        for kind, lows in each_sample():
            with self.subTest(kind, lows=lows):
                sack = sack_of(lows)
                before = self.state(sack)
                told = sack.lows()
                told.append(100)
                told[0] = 101
                self.assertEqual(self.state(sack), before)
                told.clear()
                self.assertEqual(self.state(sack), before)

    def test_two_askings_tell_two_lists(self):
        for kind, lows in each_sample():
            with self.subTest(kind, lows=lows):
                handed = list(lows)
                sack = sack_of(handed)
                one = sack.lows()
                other = sack.lows()
                self.assertIsNot(one, other)
                self.assertIsNot(one, handed)
                one.clear()
                self.assertEqual(other, lows)


if __name__ == "__main__":
    unittest.main()
