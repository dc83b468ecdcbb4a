"""Promise 2: names, numbers, tones and their texts."""

import unittest
from math import gcd

from tests.samples import any_values
from turnsleft.words import is_name, is_number, is_tone, read_tone, tone_of, tone_text


class NamesAndNumbersTest(unittest.TestCase):
    def test_names(self):
        for name in ("a", "z", "line", "abcdef", "zzzzzz"):
            self.assertIs(is_name(name), True)
        wrong = ["", "abcdefg", "A", "aB", "a1", "a b", "a_", " a", "a\n", "1", "-", "none "]
        for value in wrong + [value for value in any_values() if value != "a"]:
            self.assertIs(is_name(value), False, value)

    def test_a_list_of_letters_is_no_name(self):
        self.assertIs(is_name(["a", "b"]), False)
        self.assertIs(is_name(("a",)), False)

    def test_numbers(self):
        for value in (0, 1, -1, 10**200, -(10**300)):
            self.assertIs(is_number(value), True)
        for value in (True, False, None, "1", (1,), [1], (), []):
            self.assertIs(is_number(value), False)


class TonesTest(unittest.TestCase):
    def test_tones(self):
        for value in ((1, 1), (3, 2), (2, 3), (17, 19), (10**200, 10**200 + 1)):
            self.assertIs(is_tone(value), True)
        wrong = [(2, 2), (0, 1), (1, 0), (-1, 1), (-1, -1), (3, 2, 1), (3,), [3, 2], (3, True), (True, 1), ("3", 2)]
        for value in wrong + any_values():
            self.assertIs(is_tone(value), False, value)

    def test_tone_of(self):
        self.assertEqual(tone_of(18, 16), (9, 8))
        self.assertEqual(tone_of(1, 1), (1, 1))
        self.assertEqual(tone_of(over=34, under=17), (2, 1))
        self.assertEqual(tone_of(5, 7), (5, 7))
        big = 3**400
        self.assertEqual(tone_of(2 * big, 4 * big), (1, 2))

    def test_texts(self):
        for value, text in (((1, 1), "1"), ((3, 2), "3/2"), ((2, 1), "2"), ((1, 17), "1/17"), ((100, 7), "100/7")):
            self.assertEqual(tone_text(value), text)
            self.assertEqual(read_tone(text), value)

    def test_all_small_texts(self):
        for over in range(1, 30):
            for under in range(1, 30):
                right = under != 1 and gcd(over, under) == 1
                self.assertEqual(read_tone(f"{over}/{under}"), (over, under) if right else None)

    def test_wrong_texts(self):
        wrong = [
            "", "0", "00", "01", "1/", "/2", "1/0", "0/1", "3/02", "03/2", "3/1", "1/1", "4/2", "3//2", "3/2/1", "+3",
            "-3", "3 ", " 3", "3/ 2", "3 /2", "3/2\n", "1.5", "3:2", "a", "3/a", "1_0", "1e1", "0x1", "/", "3/-2",
            "\u0663", "3/\u0662", "\u00b2",
        ]
        for text in wrong:
            self.assertIsNone(read_tone(text), text)
        for value in any_values():
            if value != "9/8":
                self.assertIsNone(read_tone(value), value)

    def test_long_texts(self):
        most = "7" * 2000
        self.assertEqual(read_tone(most), (int(most), 1))
        self.assertEqual(read_tone("1/" + most), (1, int(most)))
        self.assertIsNone(read_tone("9" * 2000 + "/9"))
        self.assertIsNone(read_tone(most + "7"))
        self.assertIsNone(read_tone("1/" + most + "7"))
        self.assertIsNone(read_tone("7" * 6000))
        self.assertIsNone(read_tone("0" + most[1:]))
        self.assertEqual(tone_text((int(most), 2)), most + "/2")


if __name__ == "__main__":
    unittest.main()
