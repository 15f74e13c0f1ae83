"""Points 10 and 11: written and read."""

import unittest

from sackset.errors import NoStretch, NoText
from sackset.sets import NumberSet
from sackset.texts import read, written
from samples import TOP, mixed, some_lists, state, told_state, told_text


class Written(unittest.TestCase):
    BY_HAND = [
        ([], "none"),
        ([0], "0"),
        ([TOP], "16777215"),
        ([0, TOP], "0,16777215"),
        ([3, 5, 6, 7, 300], "3,5-7,300"),
        ([4, 5], "4-5"),
        ([4, 6], "4,6"),
        ([255, 256], "255-256"),
        ([254, 255, 257], "254-255,257"),
        ([255, 257], "255,257"),
        ([255, 512], "255,512"),
        (range(256), "0-255"),
        (range(256, 512), "256-511"),
        (range(255, 513), "255-512"),
        (range(100, 3000), "100-2999"),
        (range(TOP - 300, TOP + 1), "16776915-16777215"),
        ([1, 2, 3, 100, 1000, 1001, 10000], "1-3,100,1000-1001,10000"),
        (range(0, 12, 2), "0,2,4,6,8,10"),
    ]

    def test_by_hand(self):
        for numbers, text in self.BY_HAND:
            with self.subTest(text):
                made = NumberSet(list(numbers))
                self.assertEqual(written(made), text)
                self.assertIs(type(written(made)), str)
                self.assertEqual(state(made), told_state(numbers))

    def test_samples(self):
        for rising in some_lists():
            with self.subTest(rising=rising[:20]):
                self.assertEqual(written(NumberSet(mixed(rising))), told_text(rising))

    def test_after_changes(self):
        made = NumberSet()
        self.assertEqual(written(made), "none")
        made.put_all(250, 1050)
        made.drop(512)
        self.assertEqual(written(made), "250-511,513-1050")
        made.turn(500, 520)
        self.assertEqual(written(made), "250-499,512,521-1050")
        made.drop_all(0, 2000)
        self.assertEqual(written(made), "none")

    def test_a_stretch_of_more_than_100000(self):
        made = NumberSet()
        made.put_all(5, 100004)
        self.assertEqual(written(made), "5-100004")
        self.assertTrue(read(written(made)).has(100004))
        made.put(100005)
        self.assertEqual(written(made), "5-100005")
        with self.assertRaises(NoStretch):
            read(written(made))

    def test_what_is_written_is_read(self):
        for rising in some_lists():
            with self.subTest(rising=rising[:20]):
                again = read(written(NumberSet(rising)))
                self.assertIs(type(again), NumberSet)
                self.assertEqual(state(again), told_state(rising))


class Read(unittest.TestCase):
    BY_HAND = [
        ("none", []),
        (" none", []),
        ("none  ", []),
        ("   none ", []),
        ("0", [0]),
        ("16777215", [TOP]),
        ("3,5-7,300", [3, 5, 6, 7, 300]),
        ("300,5-7,3", [3, 5, 6, 7, 300]),
        ("7-7", [7]),
        ("0-0", [0]),
        ("16777215-16777215", [TOP]),
        ("16777214-16777215", [TOP - 1, TOP]),
        ("255-256", [255, 256]),
        ("250-520", list(range(250, 521))),
        # Meeting, overlapping, one in the other, told twice.
        ("1-3,4-6", [1, 2, 3, 4, 5, 6]),
        ("4-6,1-3", [1, 2, 3, 4, 5, 6]),
        ("1-4,3-6", [1, 2, 3, 4, 5, 6]),
        ("3-6,1-4", [1, 2, 3, 4, 5, 6]),
        ("1-6,3-4,2", [1, 2, 3, 4, 5, 6]),
        ("5,5,5-5,5", [5]),
        ("4,5,6", [4, 5, 6]),
        # Noughts ahead.
        ("00000000", [0]),
        ("00000007", [7]),
        ("007-0009", [7, 8, 9]),
        ("00-1", [0, 1]),
        ("0010,010,10", [10]),
        ("08,09", [8, 9]),
        # Blanks at all places where they may be.
        (" 3", [3]),
        ("3 ", [3]),
        ("   3   ", [3]),
        ("3 ,5", [3, 5]),
        ("3, 5", [3, 5]),
        ("3 -5", [3, 4, 5]),
        ("3- 5", [3, 4, 5]),
        ("  3  -  5  ,  7  ,  300  -  301  ", [3, 4, 5, 7, 300, 301]),
        ("   00000003   ", [3]),
    ]

    def test_by_hand(self):
        for text, numbers in self.BY_HAND:
            with self.subTest(text):
                self.assertEqual(state(read(text)), told_state(numbers))
                self.assertIs(type(read(text)), NumberSet)

    def test_just_100000_numbers(self):
        for first in (0, 255, 256, TOP - 99999):
            made = read(f"{first}-{first + 99999}")
            self.assertEqual(made.numbers(), list(range(first, first + 100000)))

    def test_stretches_together_may_be_longer(self):
        made = read("100000-199999,0-99999,50000-149999")
        self.assertEqual(made.numbers(), list(range(200000)))
        self.assertEqual(written(made), "0-199999")

    def test_two_readings_are_free_of_each_other(self):
        for text in ("none", "1-5"):
            one, other = read(text), read(text)
            one.put(9)
            self.assertIs(other.has(9), False)


class Refusing(unittest.TestCase):
    NO_TEXTS = [
        "", " ", "   ", ",", "-", " , ", " - ", ",,", "--", ",-", "-,",
        "3,", ",3", "3,,5", "3, ,5", " ,3", "3, ", "3,5,",
        "3-", "-3", "3--5", "3- -5", "3-5-", "-3-5", "3-5-7", "3-,5", "3,-5", "-3,5", "3 - ", " - 3",
        "3 5", "3  5", "3-5 7", "1 6", "3 ,5 7", "1 - 2 3",
        "none,", ",none", "none,3", "3,none", "none,none", "none-none", "3-none", "none-3",
        "nonenone", "none none", "no ne", "n one", "non", "nonee", "None", "NONE", "nOne",
        "none3", "3none", "none 3", "null", "empty", "all",
        "000000000", "000000003", "123456789", "1-000000002", "000000001-2", "3,016777215",
        "16777216", "16777217", "99999999", "20000000", "0-16777216", "16777216-16777217",
        "16777216-3", "3,16777216",
        "+3", "3+", "3.", "3.0", ".3", "1_000", "1'000", "0x10", "1e3", "3;5", "3:5", "3..5",
        "3/5", "a", "3a", "a3", "[3]", "(3)", "{3}", "\"3\"", "3,a", "3-a", "a-3", "~", "!", "?",
        "\t", "\n", "\r", "\t3", "3\t", "3\n", "\n3", "3\r", "3\r\n", "3,\t5", "3\t,5", "3,\n5",
        "3-\t5", "3\t-5", "3\n5", "\tnone", "none\n", "none\t", " none\n", "\v3", "3\f",
    ]

    def refuse(self, error, text):
        with self.assertRaises(error) as caught:
            read(text)
        self.assertIs(type(caught.exception), error)

    def test_no_texts(self):
        for text in self.NO_TEXTS:
            with self.subTest(text=text):
                self.refuse(NoText, text)

    def test_each_sign_but_the_figures(self):
        # A blank alone may stand at either end; between two figures nothing may
        # but what parts numbers.
        for sign in ["\t", "\n", "\r"] + [chr(code) for code in range(32, 127)]:
            with self.subTest(sign=sign):
                if sign in "0123456789":
                    self.assertEqual(read("1" + sign).numbers(), [10 + int(sign)])
                    continue
                self.refuse(NoText, sign)
                if sign not in ",-":
                    self.refuse(NoText, "1" + sign + "2")
                    self.refuse(NoText, "5," + "1" + sign + "2")
                if sign != " ":
                    self.refuse(NoText, "1" + sign)
                    self.refuse(NoText, sign + "1")
                    self.refuse(NoText, "none" + sign)
                    self.refuse(NoText, sign + "none")

    def test_the_last_one_below_the_first_one(self):
        for text in ("1-0", "5-4", "256-255", "16777215-0", "3,7-5,9", "10-9 ", "0010-009", "5-4,1"):
            with self.subTest(text):
                self.refuse(NoStretch, text)

    def test_100001_numbers_and_more(self):
        for text in ("0-100000", "1-100001", "16677215-16777215", "0-16777215", "7,00-100000"):
            with self.subTest(text):
                self.refuse(NoStretch, text)

    def test_no_text_goes_ahead_of_no_stretch(self):
        for wrong in ("5-4", "0-100000"):
            for text in ("", "x", "16777216", "3-", "000000003", "none", "1-2-3", "4\t", "5-4-3"):
                with self.subTest(wrong + "," + text):
                    self.refuse(NoText, wrong + "," + text)
                    self.refuse(NoText, text + "," + wrong)
                    self.refuse(NoText, "8," + wrong + ",9," + text)
        self.refuse(NoText, "16777216-0")
        self.refuse(NoText, "5-000000004")


if __name__ == "__main__":
    unittest.main()
