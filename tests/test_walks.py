"""Points 1, 2 and 3 over the whole: long rows of changes, each held against a
plain set of numbers.
"""

import unittest

from sackset.errors import NoNumber, NoStretch
from sackset.sets import NumberSet, apart, joined, less, met, same, within
from sackset.texts import read, written
from samples import TOP, told_sacks, told_text

BASES = (0, 130, 256, 500, 3000, TOP - 1000)
LENGTHS = (1, 1, 2, 3, 17, 60, 200, 256, 300, 700)


class Walk:
    """A row of changes that is the same in each run."""

    def __init__(self, seed):
        self.now = seed

    def next(self, many):
        self.now = (self.now * 1103515245 + 12345) % 2 ** 31
        return (self.now >> 12) % many

    def stretch(self):
        first = BASES[self.next(len(BASES))] + self.next(300)
        return first, min(first + LENGTHS[self.next(len(LENGTHS))] - 1, TOP)


def step(walk, made, there):
    """One change of a set and of a plain one: what the set told, what it had to
    tell, and the plain one as it is then.
    """
    first, last = walk.stretch()
    stretch = set(range(first, last + 1))
    choice = walk.next(8)
    if choice == 0:
        return made.put_all(first, last), len(stretch - there), there | stretch
    if choice == 1:
        return made.drop_all(first, last), -len(stretch & there), there - stretch
    if choice in (2, 3):
        after = there ^ stretch
        return made.turn(first, last), len(after) - len(there), after
    if choice == 4:
        return made.drop(first), first in there, there - {first}
    # Every other number of a stretch: what makes rows and bits.
    told = [made.put(number) for number in range(first, last + 1, choice - 3)]
    wanted = [number not in there for number in range(first, last + 1, choice - 3)]
    return told, wanted, there | set(range(first, last + 1, choice - 3))


class Walks(unittest.TestCase):
    def test_each_change(self):
        kinds = set()
        for seed in range(8):
            walk = Walk(seed)
            made, there = NumberSet(), set()
            for at in range(60):
                with self.subTest(seed=seed, at=at):
                    told, wanted, there = step(walk, made, there)
                    self.assertEqual(told, wanted)
                    self.assertEqual(made.numbers(), sorted(there))
                    self.assertEqual(made.sacks(), told_sacks(there))
                    self.assertEqual(made.count(), len(there))
                    kinds |= {form[0] for _, form in made.sacks()}
            self.assertEqual(written(made), told_text(sorted(there)))
            self.assertIs(same(made, NumberSet(list(there))), True)
        self.assertEqual(kinds, {"row", "runs", "bits"})

    def test_two_at_a_time(self):
        for seed in range(8):
            walk = Walk(seed + 100)
            one, one_there, other, other_there = NumberSet(), set(), NumberSet(), set()
            for at in range(12):
                with self.subTest(seed=seed, at=at):
                    one_there = step(walk, one, one_there)[2]
                    other_there = step(walk, other, other_there)[2]
                    for made, wanted in (
                        (joined(one, other), one_there | other_there),
                        (met(one, other), one_there & other_there),
                        (less(one, other), one_there - other_there),
                        (apart(one, other), one_there ^ other_there),
                    ):
                        self.assertEqual(made.sacks(), told_sacks(wanted))
                        self.assertIs(within(made, one), wanted <= one_there)
                        self.assertIs(same(read(written(made)), made), True)
                    self.assertEqual(one.sacks(), told_sacks(one_there))
                    self.assertEqual(other.sacks(), told_sacks(other_there))

    def test_what_is_refused_changes_nothing_in_between(self):
        walk = Walk(7)
        made, there = NumberSet(), set()
        for _ in range(40):
            there = step(walk, made, there)[2]
            first, last = walk.stretch()
            for change in (made.put_all, made.drop_all, made.turn):
                for error, ends in (
                    (NoNumber, (None, last)),
                    (NoNumber, (first, TOP + 1)),
                    (NoNumber, (first, -1)),
                    (NoNumber, (True, last)),
                    (NoStretch, (TOP, first)),
                    (NoStretch, (0, 100000)),
                ):
                    with self.assertRaises(error):
                        change(*ends)
            self.assertEqual(made.sacks(), told_sacks(there))


class Great(unittest.TestCase):
    def test_all_numbers_of_a_million(self):
        made = NumberSet()
        for first in range(0, 1000000, 100000):
            self.assertEqual(made.put_all(first, first + 99999), 100000)
        self.assertEqual(made.count(), 1000000)
        self.assertEqual(written(made), "0-999999")
        self.assertEqual(made.at(999999), 999999)
        self.assertEqual(made.below(TOP), 1000000)
        self.assertEqual(made.last_to(), 999999)
        self.assertIsNone(made.next_from(1000000))
        self.assertEqual(made.sacks()[0], (0, ("runs", ((0, 255),))))
        self.assertEqual(made.sacks()[-1], (3906, ("runs", ((0, 63),))))


if __name__ == "__main__":
    unittest.main()
