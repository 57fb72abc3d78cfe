"""Conventions [2]: INTEGER, COUNT and NAME."""

import unittest

from evenloads.basics import is_count, is_integer, is_name
from evenloads.ratios import Ratio
from helpers import NO_NAMES, STRANGE, Case

LONG = 10 ** 30 - 1
NO_INTEGERS = STRANGE + ["", "1", "-1", "a", [], [1], (), (1,), {}, {1: 1}, Ratio(1), Ratio(0)]


class IntegerTest(Case):

    def test_integers_of_either_sign(self):
        for value in (0, 1, -1, 7, -7, 1000, LONG, -LONG):
            self.assertIs(is_integer(value), True, value)

    def test_other_values(self):
        for value in NO_INTEGERS:
            self.assertIs(is_integer(value), False, value)

    def test_by_name(self):
        self.assertIs(is_integer(value=3), True)
        self.assertIs(is_integer(value=True), False)


class CountTest(Case):

    def test_counts(self):
        for value in (0, 1, 2, 24, LONG):
            self.assertIs(is_count(value), True, value)

    def test_integers_below_0(self):
        for value in (-1, -2, -LONG):
            self.assertIs(is_count(value), False, value)

    def test_other_values(self):
        for value in NO_INTEGERS:
            self.assertIs(is_count(value), False, value)

    def test_by_name(self):
        self.assertIs(is_count(value=0), True)


class NameTest(Case):

    def test_one_to_eight_letters(self):
        for length in range(1, 9):
            self.assertIs(is_name("a" * length), True, length)
            self.assertIs(is_name("z" * length), True, length)
        self.assertIs(is_name("servers"), True)

    def test_every_letter(self):
        for letter in "abcdefghijklmnopqrstuvwxyz":
            self.assertIs(is_name(letter), True, letter)
            self.assertIs(is_name("x" + letter), True, letter)

    def test_none_nine_and_ten_letters(self):
        for length in (0, 9, 10, 20000):
            self.assertIs(is_name("a" * length), False, length)

    def test_every_other_sign_at_each_position(self):
        for code in [10, *range(32, 127)]:
            sign = chr(code)
            if "a" <= sign <= "z":
                continue
            for text in (sign, sign + "ab", "a" + sign + "b", "ab" + sign):
                self.assertIs(is_name(text), False, text)

    def test_other_values(self):
        for value in NO_NAMES:
            self.assertIs(is_name(value), False, value)

    def test_by_name(self):
        self.assertIs(is_name(value="ab"), True)


if __name__ == "__main__":
    unittest.main()
