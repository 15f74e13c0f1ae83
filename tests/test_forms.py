"""Point 2: the three kinds of form, their weights, and which one a sack has."""

import unittest

from sackset.sacks import sack_of
from samples import each_sample, groups, scattered, singles, told_form

TOP = 2 ** 63

# What is in the sack, the kind, the weight.
BORDERS = [
    # A row as heavy as runs, and one more and one fewer.
    ([7], "row", 1),
    ([7, 8], "row", 2),
    ([7, 8, 9], "runs", 2),
    ([0, 1, 10], "row", 3),
    ([0, 1, 2, 10], "row", 4),
    ([0, 1, 10, 11], "row", 4),
    ([0, 1, 2, 3, 10], "runs", 4),
    ([0, 1, 2, 10, 11], "runs", 4),
    ([0, 1, 10, 20], "row", 4),
    (groups(15, 2), "row", 30),
    (groups(15, 2) + [200], "row", 31),
    (groups(15, 2) + [200, 201, 202], "runs", 32),
    # A row of 32 beside bits, where runs are heavier than both.
    (singles(31), "row", 31),
    (singles(32), "row", 32),
    (singles(33), "bits", 32),
    (groups(14, 2) + [200, 202, 204], "row", 31),
    (groups(14, 2) + [200, 202, 204, 206], "row", 32),
    (groups(14, 2) + [200, 202, 204, 206, 208], "bits", 32),
    # Runs of 16 pairs beside bits, where a row is heavier than both.
    (groups(15, 3), "runs", 30),
    (groups(16, 3), "runs", 32),
    (groups(17, 3), "bits", 32),
    (groups(15, 15), "runs", 30),
    (groups(16, 15), "runs", 32),
    (groups(16, 14) + [255], "bits", 32),
    # All three weigh 32; then one more lower part, in a pair and by itself.
    (groups(16, 2), "row", 32),
    (groups(16, 2) + [47], "runs", 32),
    (groups(16, 2) + [100], "bits", 32),
]


class Kinds(unittest.TestCase):
    def check(self, lows, kind, weight):
        sack = sack_of(lows)
        self.assertEqual(sack.kind(), kind)
        self.assertEqual(sack.weight(), weight)
        self.assertEqual(sack.form(), told_form(lows))
        self.assertEqual(sack.form()[0], kind)

    def test_borders(self):
        for lows, kind, weight in BORDERS:
            with self.subTest(lows=lows):
                self.check(lows, kind, weight)

    def test_one_alone_is_a_row(self):
        for low in range(256):
            with self.subTest(low=low):
                self.assertEqual(sack_of([low]).form(), ("row", (low,)))
                self.assertEqual(sack_of([low]).weight(), 1)

    def test_all_256(self):
        sack = sack_of(list(range(256)))
        self.assertEqual(sack.form(), ("runs", ((0, 255),)))
        self.assertEqual(sack.weight(), 2)
        self.assertEqual(sack.count(), 256)
        self.assertEqual(sack.lows(), list(range(256)))

    def test_all_but_one(self):
        for low in range(1, 255):
            with self.subTest(low=low):
                lows = [other for other in range(256) if other != low]
                self.assertEqual(sack_of(lows).form(), ("runs", ((0, low - 1), (low + 1, 255))))
        self.assertEqual(sack_of(list(range(1, 256))).form(), ("runs", ((1, 255),)))
        self.assertEqual(sack_of(list(range(255))).form(), ("runs", ((0, 254),)))

    def test_each_kind_for_many_lists(self):
        kinds = []
        for seed in range(500):
            lows = scattered(seed)
            with self.subTest(seed=seed):
                form = told_form(lows)
                self.assertEqual(sack_of(lows).form(), form)
                self.assertEqual(sack_of(lows).lows(), lows)
                kinds.append(form[0])
        for kind in ("row", "runs", "bits"):
            self.assertGreater(kinds.count(kind), 50)


class Rows(unittest.TestCase):
    def test_row(self):
        sack = sack_of([0, 5, 6, 255])
        self.assertEqual(sack.form(), ("row", (0, 5, 6, 255)))
        self.assertEqual(sack.weight(), 4)


class Runs(unittest.TestCase):
    def test_runs(self):
        sack = sack_of([0, 1, 2, 9, 10, 11, 12, 200, 253, 254, 255])
        self.assertEqual(sack.form(), ("runs", ((0, 2), (9, 12), (200, 200), (253, 255))))
        self.assertEqual(sack.weight(), 8)

    def test_one_missing_parts_two_pairs(self):
        sack = sack_of([10, 11, 12, 14, 15, 16])
        self.assertEqual(sack.form(), ("runs", ((10, 12), (14, 16))))


class Bits(unittest.TestCase):
    EDGES = (0, 63, 64, 127, 128, 191, 192, 255)

    def test_edges_of_the_words_in_and_out(self):
        # Bits, whichever of the edges are in; none of the edges is among them.
        others = list(range(2, 256, 4))
        word = 0x4444444444444444
        for choice in range(2 ** len(self.EDGES)):
            edges = [edge for at, edge in enumerate(self.EDGES) if choice >> at & 1]
            with self.subTest(edges=edges):
                words = tuple(
                    word + (1 if 64 * k in edges else 0) + (TOP if 64 * k + 63 in edges else 0)
                    for k in range(4)
                )
                sack = sack_of(others + edges)
                self.assertEqual(sack.form(), ("bits", words))
                self.assertEqual(sack.weight(), 32)
                self.assertEqual(sack.count(), len(others) + len(edges))
                self.assertEqual(sack.lows(), sorted(others + edges))
                for edge in self.EDGES:
                    self.assertIs(sack.has(edge), edge in edges)

    def test_order_of_the_words(self):
        lows = [*range(0, 64, 2), *range(66, 128, 4), *range(133, 192, 8), 192, 255]
        words = (0x5555555555555555, 0x4444444444444444, 0x2020202020202020, TOP + 1)
        self.assertEqual(sack_of(lows).form(), ("bits", words))

    def test_a_word_that_is_full_and_one_that_is_empty(self):
        lows = [*range(64, 128), *range(128, 256, 2)]
        words = (0, 2 ** 64 - 1, 0x5555555555555555, 0x5555555555555555)
        self.assertEqual(sack_of(lows).form(), ("bits", words))


class KindsOfValues(unittest.TestCase):
    def test_form_is_a_tuple_of_a_text_and_a_tuple(self):
        for kind, lows in each_sample():
            with self.subTest(kind, lows=lows):
                form = sack_of(lows).form()
                self.assertIs(type(form), tuple)
                self.assertEqual(len(form), 2)
                self.assertIs(type(form[0]), str)
                self.assertIs(type(form[1]), tuple)
                self.assertEqual(form[0], kind)

    def test_runs_are_a_tuple_of_tuples(self):
        for kind, lows in each_sample():
            if kind == "runs":
                for pair in sack_of(lows).form()[1]:
                    self.assertIs(type(pair), tuple)
                    self.assertEqual([type(low) for low in pair], [int, int])

    def test_rows_and_bits_are_tuples_of_whole_numbers(self):
        for kind, lows in each_sample():
            if kind != "runs":
                told = sack_of(lows).form()[1]
                self.assertEqual({type(number) for number in told}, {int})


if __name__ == "__main__":
    unittest.main()
