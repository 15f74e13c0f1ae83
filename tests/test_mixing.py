"""Point 9: joined, met, less, apart, same, within."""

import unittest

from sackset.sets import NumberSet, apart, joined, less, met, same, within
from samples import TOP, groups, mixed, singles, some_lists, state, told_state

WANTED = [
    (joined, lambda one, other: one | other),
    (met, lambda one, other: one & other),
    (less, lambda one, other: one - other),
    (apart, lambda one, other: one ^ other),
]


class New(unittest.TestCase):
    def test_of_each_two(self):
        for rising in some_lists():
            for other in some_lists():
                one_set, other_set = NumberSet(mixed(rising)), NumberSet(other)
                for mix, wanted in WANTED:
                    with self.subTest(mix.__name__, one=rising[:20], other=other[:20]):
                        made = mix(one_set, other_set)
                        self.assertIs(type(made), NumberSet)
                        self.assertEqual(state(made), told_state(wanted(set(rising), set(other))))
                        self.assertEqual(state(one_set), told_state(rising))
                        self.assertEqual(state(other_set), told_state(other))

    def test_by_hand(self):
        one, other = NumberSet([1, 2, 300]), NumberSet([2, 3, 70000])
        self.assertEqual(joined(one, other).numbers(), [1, 2, 3, 300, 70000])
        self.assertEqual(met(one, other).numbers(), [2])
        self.assertEqual(less(one, other).numbers(), [1, 300])
        self.assertEqual(less(other, one).numbers(), [3, 70000])
        self.assertEqual(apart(one, other).numbers(), [1, 3, 300, 70000])

    def test_no_sack_is_empty(self):
        one, other = NumberSet([1, 300, TOP]), NumberSet([2, 301, TOP])
        self.assertEqual(met(one, other).sacks(), [(65535, ("row", (255,)))])
        self.assertEqual([upper for upper, _ in less(one, other).sacks()], [0, 1])
        self.assertEqual([upper for upper, _ in apart(one, other).sacks()], [0, 1])

    def test_forms_that_weigh_least(self):
        # Two rows that join to bits, and to runs; two sets of bits that leave a row.
        even, odd = NumberSet(singles(32)), NumberSet([low + 1 for low in singles(32)])
        self.assertEqual(joined(even, odd).sacks(), [(0, ("runs", ((0, 63),)))])
        self.assertEqual(apart(even, odd).sacks(), [(0, ("runs", ((0, 63),)))])
        far = NumberSet([low + 100 for low in singles(32)])
        self.assertEqual(joined(even, far).sacks()[0][1][0], "bits")
        many, fewer = NumberSet(groups(40, 2)), NumberSet(groups(39, 2))
        self.assertEqual(less(many, fewer).sacks(), [(0, ("row", (117, 118)))])
        self.assertEqual(met(many, fewer).sacks()[0][1][0], "bits")

    def test_of_a_set_and_itself(self):
        for rising in some_lists():
            made = NumberSet(rising)
            self.assertEqual(state(joined(made, made)), told_state(rising))
            self.assertEqual(state(met(made, made)), told_state(rising))
            self.assertEqual(state(less(made, made)), told_state([]))
            self.assertEqual(state(apart(made, made)), told_state([]))


class Free(unittest.TestCase):
    def spoil(self, made):
        made.put(77)
        made.drop(300)
        made.drop_all(0, 50)
        made.turn(200, 900)
        made.put_all(70000, 70010)

    def test_changing_the_new_one_changes_neither(self):
        one_list, other_list = list(range(0, 700)), [5, 300, *range(1000, 1300, 2), 70000]
        for mix, _ in WANTED:
            for pair in ((one_list, other_list), (other_list, one_list), (one_list, [])):
                one, other = NumberSet(pair[0]), NumberSet(pair[1])
                self.spoil(mix(one, other))
                self.assertEqual(state(one), told_state(pair[0]))
                self.assertEqual(state(other), told_state(pair[1]))

    def test_changing_either_does_not_change_the_new_one(self):
        one_list, other_list = list(range(0, 700)), [5, 300, *range(1000, 1300, 2), 70000]
        for mix, wanted in WANTED:
            for pair in ((one_list, other_list), (other_list, one_list), ([], one_list)):
                one, other = NumberSet(pair[0]), NumberSet(pair[1])
                made = mix(one, other)
                self.spoil(one)
                self.spoil(other)
                self.assertEqual(state(made), told_state(wanted(set(pair[0]), set(pair[1]))))

    def test_a_new_one_of_an_empty_set_is_another_one(self):
        one, empty = NumberSet([1, 2]), NumberSet()
        for made in (joined(one, empty), joined(empty, one), less(one, empty), met(one, one)):
            self.assertIsNot(made, one)
            made.put(3)
            self.assertEqual(one.numbers(), [1, 2])
            self.assertEqual(empty.numbers(), [])


class Telling(unittest.TestCase):
    def test_same_and_within_of_each_two(self):
        for rising in some_lists():
            for other in some_lists():
                with self.subTest(one=rising[:20], other=other[:20]):
                    one_set, other_set = NumberSet(rising), NumberSet(mixed(other))
                    self.assertIs(same(one_set, other_set), set(rising) == set(other))
                    self.assertIs(within(one_set, other_set), set(rising) <= set(other))
                    self.assertEqual(state(one_set), told_state(rising))
                    self.assertEqual(state(other_set), told_state(other))

    def test_one_more_and_one_fewer(self):
        for rising in some_lists():
            for number in (3, 255, 256, 70001, TOP - 1):
                if number in rising:
                    continue
                one, other = NumberSet(rising), NumberSet(rising)
                self.assertIs(same(one, other), True)
                self.assertIs(within(one, other), True)
                other.put(number)
                self.assertIs(same(one, other), False)
                self.assertIs(same(other, one), False)
                self.assertIs(within(one, other), True)
                self.assertIs(within(other, one), False)
                one.put(number)
                self.assertIs(same(one, other), True)
                self.assertIs(within(other, one), True)

    def test_a_set_and_itself(self):
        made = NumberSet([1, 300])
        self.assertIs(same(made, made), True)
        self.assertIs(within(made, made), True)

    def test_the_empty_set_is_within_each(self):
        for rising in some_lists():
            self.assertIs(within(NumberSet(), NumberSet(rising)), True)
            self.assertIs(within(NumberSet(rising), NumberSet()), not rising)

    def test_same_however_they_came_to_be(self):
        one = NumberSet(list(range(0, 600, 2)))
        other = NumberSet()
        other.put_all(0, 599)
        other.drop_all(500, 600)
        for number in range(1, 500, 2):
            other.drop(number)
        self.assertIs(same(one, other), False)
        for number in range(500, 600, 2):
            other.turn(number)
        self.assertIs(same(one, other), True)


if __name__ == "__main__":
    unittest.main()
