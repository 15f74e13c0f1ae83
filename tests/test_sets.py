"""Point 6: making a set, put, drop, put_all, drop_all, turn, and their refusals."""

import unittest

from sackset.errors import NoNumber, NoStretch
from sackset.sets import NumberSet
from samples import (
    NO_NUMBERS, TOP, groups, mixed, numbers_to_ask, singles, some_lists, state, told_state,
)

# Stretches, with both ends: inside of a sack, over its borders, over many.
STRETCHES = [
    (0, 0), (TOP, TOP), (255, 255), (256, 256), (0, 255), (256, 511), (255, 256), (254, 257),
    (0, 256), (255, 511), (255, 512), (100, 200), (100, 1900), (1, 2000), (TOP - 255, TOP),
    (TOP - 256, TOP - 255), (TOP - 700, TOP), (65535, 65536),
]


class Making(unittest.TestCase):
    def test_of_none(self):
        for made in (NumberSet(), NumberSet(None), NumberSet([]), NumberSet(())):
            self.assertEqual(state(made), ([], [], 0))

    def test_of_lists_and_tuples_in_any_order(self):
        for rising in some_lists():
            for told in (rising, rising[::-1], mixed(rising), rising + mixed(rising)):
                with self.subTest(told=told[:20]):
                    self.assertEqual(state(NumberSet(told)), told_state(rising))
                    self.assertEqual(state(NumberSet(tuple(told))), told_state(rising))

    def test_a_number_told_many_times_counts_once(self):
        self.assertEqual(state(NumberSet([300] * 50)), told_state([300]))
        self.assertEqual(state(NumberSet([7, 300, 7, 7, 300])), told_state([7, 300]))

    def test_two_sets_are_free_of_each_other(self):
        one = NumberSet()
        other = NumberSet()
        one.put(5)
        self.assertEqual(state(other), told_state([]))
        other.put(6)
        self.assertEqual(state(one), told_state([5]))

    def test_refusals(self):
        for name, wrong in NO_NUMBERS:
            for told in ([wrong], [wrong, 5], [5, 600, wrong], [5, wrong, 600], [wrong, wrong]):
                for handed in (told, tuple(told)):
                    with self.subTest(name):
                        with self.assertRaises(NoNumber) as caught:
                            NumberSet(handed)
                        self.assertIs(type(caught.exception), NoNumber)

    def test_what_is_handed_in_stays_and_is_let_go(self):
        for rising in some_lists():
            handed = mixed(rising) + rising
            before = list(handed)
            made = NumberSet(handed)
            self.assertEqual(handed, before)
            handed.append(12345)
            handed[0] = 54321
            self.assertEqual(state(made), told_state(rising))
            made.put_all(20, 30)
            self.assertEqual(len(handed), len(before) + 1)

    def test_a_list_that_is_refused_stays(self):
        handed = [9, 3, TOP + 1, 1]
        with self.assertRaises(NoNumber):
            NumberSet(handed)
        self.assertEqual(handed, [9, 3, TOP + 1, 1])


class One(unittest.TestCase):
    """put and drop."""

    def test_put_and_drop(self):
        for rising in some_lists():
            for number in numbers_to_ask():
                with self.subTest(rising=rising[:20], number=number):
                    there = number in rising
                    made = NumberSet(rising)
                    self.assertIs(made.put(number), not there)
                    self.assertEqual(state(made), told_state(rising + [number]))
                    self.assertIs(made.put(number), False)
                    self.assertEqual(state(made), told_state(rising + [number]))
                    without = [other for other in rising if other != number]
                    self.assertIs(made.drop(number), True)
                    self.assertEqual(state(made), told_state(without))
                    self.assertIs(made.drop(number), False)
                    self.assertEqual(state(made), told_state(without))

    def test_the_last_number_of_a_sack_takes_the_sack_along(self):
        made = NumberSet([5, 300, 70000])
        made.drop(300)
        self.assertEqual(made.sacks(), [(0, ("row", (5,))), (273, ("row", (112,)))])
        made.drop(5)
        made.drop(70000)
        self.assertEqual(made.sacks(), [])

    def test_one_by_one_in_any_order(self):
        for rising in some_lists():
            made = NumberSet()
            for number in mixed(rising):
                self.assertIs(made.put(number), True)
            self.assertEqual(state(made), told_state(rising))
            for number in rising[::2]:
                self.assertIs(made.drop(number), True)
            self.assertEqual(state(made), told_state(rising[1::2]))


class Stretch(unittest.TestCase):
    """put_all, drop_all and turn."""

    def check(self, rising, first, last, *ends):
        there = set(rising)
        stretch = set(range(first, last + 1))
        wanted = {
            "put_all": there | stretch,
            "drop_all": there - stretch,
            "turn": there ^ stretch,
        }
        for name, numbers in wanted.items():
            made = NumberSet(rising)
            more = getattr(made, name)(first, *ends)
            self.assertIs(type(more), int)
            self.assertEqual(more, len(numbers) - len(there), name)
            self.assertEqual(state(made), told_state(numbers), name)

    def test_stretches(self):
        for rising in some_lists():
            for first, last in STRETCHES:
                with self.subTest(rising=rising[:20], first=first, last=last):
                    self.check(rising, first, last, last)

    def test_the_last_one_left_out_or_none(self):
        for rising in some_lists():
            for number in (0, 100, 255, 256, 511, TOP - 600, TOP):
                with self.subTest(rising=rising[:20], number=number):
                    self.check(rising, number, number)
                    self.check(rising, number, number, None)
                    self.check(rising, number, number, number)

    def test_what_they_tell(self):
        made = NumberSet([10, 11, 12])
        self.assertEqual(made.put_all(8, 20), 10)
        self.assertEqual(made.put_all(8, 20), 0)
        self.assertEqual(made.drop_all(0, 9), -2)
        self.assertEqual(made.drop_all(0, 9), 0)
        self.assertEqual(made.turn(10, 20), -11)
        self.assertEqual(made.turn(10, 20), 11)
        self.assertEqual(made.turn(20, 21), 0)
        self.assertEqual(made.numbers(), [*range(10, 20), 21])
        self.assertEqual(made.turn(18, 20), -1)
        self.assertEqual(made.numbers(), [*range(10, 18), 20, 21])

    def test_turned_twice_is_as_ahead_of_it(self):
        for rising in some_lists():
            made = NumberSet(rising)
            more = made.turn(200, 5000)
            self.assertEqual(made.turn(200, 5000), -more)
            self.assertEqual(state(made), told_state(rising))

    def test_all_dropped_leaves_no_sack(self):
        made = NumberSet(list(range(200, 3000)))
        self.assertEqual(made.drop_all(256, 2560), -2305)
        self.assertEqual([upper for upper, _ in made.sacks()], [0, 10, 11])
        self.assertEqual(made.drop_all(0, 99999), -495)
        self.assertEqual(made.sacks(), [])

    def test_all_turned_leaves_no_sack(self):
        made = NumberSet(list(range(200, 3000)))
        made.turn(200, 2999)
        self.assertEqual(state(made), ([], [], 0))

    def test_just_100000_numbers(self):
        for first in (0, 1, 255, 256, 5000000, TOP - 99999):
            with self.subTest(first=first):
                made = NumberSet()
                self.assertEqual(made.put_all(first, first + 99999), 100000)
                self.assertEqual(made.numbers(), list(range(first, first + 100000)))
                self.assertEqual(made.turn(first, first + 99999), -100000)
                self.assertEqual(made.turn(first, first + 99999), 100000)
                self.assertEqual(made.drop_all(first, first + 99999), -100000)
                self.assertEqual(state(made), ([], [], 0))


class Forms(unittest.TestCase):
    """Points 1 and 2: the form changes at its borders, whichever way they are passed."""

    BASE = 256 * 77

    # Lower parts that are there, one more, the kinds without and with it.
    BORDERS = [
        ([7], 8, "row", "row"),
        ([7, 8], 9, "row", "runs"),
        ([7, 9], 8, "row", "runs"),
        ([0, 1, 2], 10, "runs", "row"),
        ([0, 1, 2, 10], 3, "row", "runs"),
        (singles(31), 100, "row", "row"),
        (singles(32), 100, "row", "bits"),
        (singles(32), 255, "row", "bits"),
        (groups(15, 3), 255, "runs", "runs"),
        (groups(16, 3), 255, "runs", "bits"),
        (groups(17, 3), 3, "bits", "runs"),
        (groups(16, 2), 47, "row", "runs"),
        (groups(16, 2), 100, "row", "bits"),
        ([low for low in range(256) if low != 255], 255, "runs", "runs"),
        ([low for low in range(256) if low % 2 or low > 33], 32, "bits", "runs"),
    ]

    def kinds(self, made):
        return [(upper, form[0]) for upper, form in made.sacks()]

    def check(self, made, lows, kind):
        self.assertEqual(self.kinds(made), [(77, kind)])
        self.assertEqual(state(made), told_state([self.BASE + low for low in lows]))

    def test_by_one_number(self):
        for lows, low, without, with_it in self.BORDERS:
            ways = [("put", "drop"), ("put_all", "drop_all"), ("turn", "turn")]
            for there, away in ways:
                with self.subTest(lows=lows, low=low, by=there):
                    made = NumberSet([self.BASE + other for other in lows])
                    self.check(made, lows, without)
                    getattr(made, there)(self.BASE + low)
                    self.check(made, lows + [low], with_it)
                    getattr(made, away)(self.BASE + low)
                    self.check(made, lows, without)

    def test_full_and_empty(self):
        made = NumberSet([self.BASE + low for low in singles(128)])
        self.check(made, singles(128), "bits")
        made.put_all(self.BASE, self.BASE + 255)
        self.check(made, range(256), "runs")
        made.turn(self.BASE + 1, self.BASE + 255)
        self.check(made, [0], "row")
        made.turn(self.BASE, self.BASE)
        self.assertEqual(made.sacks(), [])

    def test_the_sacks_beside_stay(self):
        made = NumberSet([255, 512])
        made.put_all(256, 511)
        self.assertEqual(
            made.sacks(),
            [(0, ("row", (255,))), (1, ("runs", ((0, 255),))), (2, ("row", (0,)))],
        )


class Refusing(unittest.TestCase):
    RISING = [0, 5, 6, 7, 8, 255, 256, *range(300, 600, 2), TOP]

    def refuse(self, error, name, *ends):
        made = NumberSet(self.RISING)
        with self.assertRaises(error) as caught:
            getattr(made, name)(*ends)
        self.assertIs(type(caught.exception), error)
        self.assertEqual(state(made), told_state(self.RISING))

    def test_no_number_of_one(self):
        for name, wrong in NO_NUMBERS:
            for method in ("put", "drop", "put_all", "drop_all", "turn"):
                with self.subTest(method, wrong=name):
                    self.refuse(NoNumber, method, wrong)

    def test_no_number_at_either_end(self):
        for name, wrong in NO_NUMBERS:
            for method in ("put_all", "drop_all", "turn"):
                with self.subTest(method, wrong=name):
                    self.refuse(NoNumber, method, wrong, 10)
                    self.refuse(NoNumber, method, wrong, TOP)
                    self.refuse(NoNumber, method, wrong, None)
                    self.refuse(NoNumber, method, wrong, wrong)
                    if wrong is not None:
                        self.refuse(NoNumber, method, 4, wrong)
                        self.refuse(NoNumber, method, TOP, wrong)

    def test_no_number_goes_ahead_of_no_stretch(self):
        for method in ("put_all", "drop_all", "turn"):
            self.refuse(NoNumber, method, 5, -1)
            self.refuse(NoNumber, method, 0, TOP + 1)
            self.refuse(NoNumber, method, TOP + 1, 0)
            self.refuse(NoNumber, method, -1, TOP)
            self.refuse(NoNumber, method, 5, False)
            self.refuse(NoNumber, method, TOP, True)

    def test_the_last_one_below_the_first_one(self):
        for method in ("put_all", "drop_all", "turn"):
            for first, last in ((1, 0), (5, 4), (256, 255), (TOP, 0), (TOP, TOP - 1)):
                with self.subTest(method, first=first, last=last):
                    self.refuse(NoStretch, method, first, last)

    def test_100001_numbers_and_more(self):
        for method in ("put_all", "drop_all", "turn"):
            for first in (0, 255, 5000000, TOP - 100000):
                with self.subTest(method, first=first):
                    self.refuse(NoStretch, method, first, first + 100000)
            self.refuse(NoStretch, method, 0, TOP)


if __name__ == "__main__":
    unittest.main()
