"""Points 7 and 8: has, count, numbers, sacks; below, at, next_from, last_to."""

import unittest

from sackset.errors import NoNumber, NoRank
from sackset.sets import NumberSet
from samples import NO_NUMBERS, TOP, mixed, numbers_to_ask, some_lists, state, told_sacks

# What is no whole number, and those that are no place.
NO_RANKS = [(name, wrong) for name, wrong in NO_NUMBERS if type(wrong) is not int]


class Asking(unittest.TestCase):
    def test_has(self):
        for rising in some_lists():
            made = NumberSet(mixed(rising))
            for number in numbers_to_ask() + rising[:300]:
                with self.subTest(rising=rising[:20], number=number):
                    self.assertIs(made.has(number), number in rising)

    def test_count(self):
        for rising in some_lists():
            with self.subTest(rising=rising[:20]):
                self.assertEqual(NumberSet(rising + rising).count(), len(rising))
                self.assertIs(type(NumberSet(rising).count()), int)

    def test_numbers_of_all(self):
        for rising in some_lists():
            with self.subTest(rising=rising[:20]):
                made = NumberSet(mixed(rising))
                self.assertEqual(made.numbers(), rising)
                self.assertEqual(made.numbers(0), rising)
                self.assertEqual(made.numbers(0, TOP), rising)
                self.assertIs(type(made.numbers()), list)

    def test_numbers_of_a_stretch(self):
        for rising in some_lists():
            made = NumberSet(rising)
            for first in numbers_to_ask():
                with self.subTest(rising=rising[:20], first=first):
                    wanted = [number for number in rising if number >= first]
                    self.assertEqual(made.numbers(first), wanted)
                for last in numbers_to_ask():
                    with self.subTest(rising=rising[:20], first=first, last=last):
                        wanted = [number for number in rising if first <= number <= last]
                        self.assertEqual(made.numbers(first, last), wanted)

    def test_numbers_of_more_than_100000(self):
        made = NumberSet([3])
        made.put_all(100000, 199999)
        made.put_all(200000, 250000)
        self.assertEqual(made.numbers(3, 250000), [3, *range(100000, 250001)])

    def test_a_first_one_above_the_last_one(self):
        made = NumberSet(list(range(1000)))
        for first, last in ((1, 0), (300, 299), (256, 255), (TOP, 0)):
            self.assertEqual(made.numbers(first, last), [])

    def test_sacks(self):
        for rising in some_lists():
            with self.subTest(rising=rising[:20]):
                sacks = NumberSet(mixed(rising)).sacks()
                self.assertEqual(sacks, told_sacks(rising))
                self.assertIs(type(sacks), list)
                for pair in sacks:
                    self.assertIs(type(pair), tuple)
                    self.assertIs(type(pair[1]), tuple)
                    self.assertIs(type(pair[1][1]), tuple)

    def test_sacks_by_hand(self):
        made = NumberSet([TOP, 300, 5, 3, 4, 65536])
        self.assertEqual(
            made.sacks(),
            [
                (0, ("runs", ((3, 5),))),
                (1, ("row", (44,))),
                (256, ("row", (0,))),
                (65535, ("row", (255,))),
            ],
        )

    def test_sacks_are_told_rising_whichever_came_first(self):
        made = NumberSet()
        for number in (70000, 5, TOP, 300, 256 * 9):
            made.put(number)
        self.assertEqual([upper for upper, _ in made.sacks()], [0, 1, 9, 273, 65535])


class Places(unittest.TestCase):
    def test_below(self):
        for rising in some_lists():
            made = NumberSet(mixed(rising))
            for number in numbers_to_ask() + rising[:100]:
                with self.subTest(rising=rising[:20], number=number):
                    wanted = len([other for other in rising if other < number])
                    self.assertEqual(made.below(number), wanted)
                    self.assertIs(type(made.below(number)), int)

    def test_at(self):
        for rising in some_lists():
            made = NumberSet(mixed(rising))
            ranks = [*range(min(len(rising), 300)), *range(max(len(rising) - 10, 0), len(rising))]
            for rank in ranks:
                with self.subTest(rising=rising[:20], rank=rank):
                    self.assertEqual(made.at(rank), rising[rank])
                    self.assertIs(type(made.at(rank)), int)

    def test_at_and_below_belong_together(self):
        for rising in some_lists():
            made = NumberSet(rising)
            for number in rising[::7]:
                self.assertEqual(made.at(made.below(number)), number)

    def test_no_rank(self):
        for rising in some_lists():
            made = NumberSet(rising)
            places = [-1, -2, len(rising), len(rising) + 1, TOP, TOP + 1, 10 ** 5000, -(10 ** 5000)]
            for wrong in places + [wrong for _, wrong in NO_RANKS]:
                with self.subTest(rising=rising[:20]):
                    with self.assertRaises(NoRank) as caught:
                        made.at(wrong)
                    self.assertIs(type(caught.exception), NoRank)

    def test_next_from(self):
        for rising in some_lists():
            made = NumberSet(mixed(rising))
            self.assertEqual(made.next_from(), rising[0] if rising else None)
            for number in numbers_to_ask() + rising[:50]:
                with self.subTest(rising=rising[:20], number=number):
                    wanted = [other for other in rising if other >= number]
                    self.assertEqual(made.next_from(number), wanted[0] if wanted else None)

    def test_last_to(self):
        for rising in some_lists():
            made = NumberSet(mixed(rising))
            self.assertEqual(made.last_to(), rising[-1] if rising else None)
            for number in numbers_to_ask() + rising[:50]:
                with self.subTest(rising=rising[:20], number=number):
                    wanted = [other for other in rising if other <= number]
                    self.assertEqual(made.last_to(number), wanted[-1] if wanted else None)

    def test_nought_is_told_as_a_number_and_not_as_none(self):
        made = NumberSet([0])
        self.assertEqual((made.next_from(), made.last_to(), made.at(0)), (0, 0, 0))
        self.assertIsNone(made.next_from(1))
        self.assertIsNone(NumberSet([1]).last_to(0))
        self.assertIsNone(NumberSet().next_from())
        self.assertIsNone(NumberSet().last_to())


class Refusing(unittest.TestCase):
    def refuse(self, name, *told):
        for rising in ([], [5, 300, *range(512, 900), TOP]):
            made = NumberSet(rising)
            before = state(made)
            with self.assertRaises(NoNumber) as caught:
                getattr(made, name)(*told)
            self.assertIs(type(caught.exception), NoNumber)
            self.assertEqual(state(made), before)

    def test_no_number_of_one(self):
        for name, wrong in NO_NUMBERS:
            for method in ("has", "numbers", "below", "next_from", "last_to"):
                with self.subTest(method, wrong=name):
                    self.refuse(method, wrong)

    def test_no_number_at_either_end(self):
        for name, wrong in NO_NUMBERS:
            with self.subTest(name):
                self.refuse("numbers", wrong, 10)
                self.refuse("numbers", 10, wrong)
                self.refuse("numbers", TOP, wrong)
                self.refuse("numbers", wrong, wrong)


class Owning(unittest.TestCase):
    def test_lists_that_are_told_are_the_askers_own(self):
        for rising in some_lists():
            made = NumberSet(rising)
            before = state(made)
            for told in (made.numbers(), made.numbers(0, TOP), made.sacks(), made.numbers(1, 0)):
                told.append(9)
                told[0] = 9
                self.assertEqual(state(made), before)
                told.clear()
                self.assertEqual(state(made), before)
            self.assertIsNot(made.numbers(), made.numbers())
            self.assertIsNot(made.sacks(), made.sacks())

    def test_what_was_told_stays_when_the_set_changes(self):
        made = NumberSet(list(range(100, 700)))
        numbers = made.numbers()
        sacks = made.sacks()
        made.drop_all(0, 9999)
        self.assertEqual(numbers, list(range(100, 700)))
        self.assertEqual(sacks, told_sacks(range(100, 700)))

    def test_asking_changes_nothing(self):
        for rising in some_lists():
            made = NumberSet(rising)
            before = state(made)
            for number in numbers_to_ask():
                made.has(number)
                made.numbers(number, number)
                made.below(number)
                made.next_from(number)
                made.last_to(number)
            self.assertEqual(state(made), before)


if __name__ == "__main__":
    unittest.main()
