"""Stage 1 [11]: Ratio, made, read, written and compared; test_ratio_signs.py has the operators."""

import random
import unittest
from fractions import Fraction

from evenloads.errors import DividedByZero, InvalidNumber
from evenloads.ratios import Ratio
from helpers import NO_NUMBERS, STRANGE, Case

LONG = 10 ** 30 - 1
OTHER = 7 ** 35
TOPS = [0, 1, -1, 2, -2, 3, 6, -6, 12, 35, -1000, LONG, -LONG, OTHER, 10 ** 29]
BOTTOMS = [1, -1, 2, -2, 3, 4, 6, -6, 35, -1000, LONG, -LONG, OTHER, 10 ** 29]
NO_INTEGERS = STRANGE + ["", "1", "3/4", [], [1], (), (1, 2), {}, {1: 2}, Ratio(1), Ratio(2, 3)]


def pairs():
    """Tops and bottoms: of all signs and lengths, and some that chance gives."""
    found = [(top, bottom) for top in TOPS for bottom in BOTTOMS]
    chance = random.Random(11)
    for _ in range(200):
        most = 10 ** chance.randint(1, 30) - 1
        found.append((chance.randint(-most, most), chance.randint(1, most) * chance.choice([1, -1])))
    return found


class MakingTest(Case):

    def test_lowest_terms(self):
        for top, bottom in pairs():
            wanted = Fraction(top, bottom)
            self.same_ratio(Ratio(top, bottom), wanted.numerator, wanted.denominator)

    def test_the_documents_example(self):
        half = Ratio(-3, -6)
        self.assertEqual([str(half), str(2 - half), str(half * half), 7 // half, str(Ratio(7, 3) % 1),
                          half.compare(1)], ["1/2", "3/2", "1/4", 14, "1/3", -1])

    def test_one_argument(self):
        for top in TOPS:
            self.same_ratio(Ratio(top), top, 1)

    def test_by_name(self):
        self.same_ratio(Ratio(top=6, bottom=-4), -3, 2)
        self.same_ratio(Ratio(bottom=4, top=6), 3, 2)
        self.same_ratio(Ratio(5, bottom=10), 1, 2)

    def test_a_top_that_is_no_integer(self):
        for value in NO_INTEGERS:
            self.fails(InvalidNumber, {"value": value}, Ratio, value)
            self.fails(InvalidNumber, {"value": value}, Ratio, value, 2)

    def test_a_bottom_that_is_no_integer_or_0(self):
        for value in NO_INTEGERS + [0]:
            self.fails(InvalidNumber, {"value": value}, Ratio, 1, value)
            self.fails(InvalidNumber, {"value": value}, Ratio, top=0, bottom=value)

    def test_the_top_is_checked_first(self):
        for value in NO_INTEGERS:
            for bottom in (0, "b", None, False):
                self.fails(InvalidNumber, {"value": value}, Ratio, value, bottom)

    def test_top_and_bottom_cannot_be_set(self):
        number = Ratio(3, 4)
        for name in ("top", "bottom"):
            with self.assertRaises(AttributeError):
                setattr(number, name, 1)
        self.same_ratio(number, 3, 4)


class OfTest(Case):

    def test_of_integers_and_ratios(self):
        for top in TOPS:
            self.same_ratio(Ratio.of(top), top, 1)
        for top, bottom in pairs():
            wanted = Fraction(top, bottom)
            self.same_ratio(Ratio.of(Ratio(top, bottom)), wanted.numerator, wanted.denominator)

    def test_by_name_and_off_an_object(self):
        self.same_ratio(Ratio.of(value=-3), -3, 1)
        self.same_ratio(Ratio(1, 2).of(7), 7, 1)

    def test_other_values(self):
        for value in NO_NUMBERS:
            self.fails(InvalidNumber, {"value": value}, Ratio.of, value)


class ReadTest(Case):

    def test_each_str_is_read(self):
        for top, bottom in pairs():
            number = Ratio(top, bottom)
            self.same_ratio(Ratio.read(str(number)), number.top, number.bottom)

    def test_by_name(self):
        self.same_ratio(Ratio.read(text="-3/4"), -3, 4)

    def test_texts_that_are_nearly_a_number(self):
        for text in ["", "-", "/", "+3", "+3/4", "03", "-03", "00", "-0", "-00", "000001", " 3", "3 ", "3\n", "\n3",
                     "- 3", "--3", "3-", "-+3", "3/", "/4", "-/4", "/", "//", "3//4", "3/4/", "3/4/5", "/3/4",
                     "3 /4", "3/ 4", "3/4 ", " 3/4", "3/4\n", "03/4", "3/04", "3/00", "-03/4", "3/+4", "3/-4",
                     "-3/-4", "3/1", "-3/1", "0/1", "0/2", "0/5", "-0/5", "3/0", "0/0", "-1/0", "6/4", "-6/4",
                     "4/2", "2/2", "33/99", "1_000", "1,000", "3.0", "3.5", ".5", "1e3", "0x10", "3a", "a3", "a",
                     "3/a", "a/4", "3/4a", "x/y", "Ratio(3, 4)", "3:4", "(3)", "3\\4", "1 1/2", "0" * 5000,
                     "1/" + "0" * 5000, "1" + "0" * 29 + "/" + "2" + "0" * 29, "9" * 30 + "/" + "3" * 30,
                     "9" * 30 + "x", "None", "True"]:
            self.fails(InvalidNumber, {"value": text}, Ratio.read, text)

    def test_every_sign_beside_a_number(self):
        for code in [10, *range(32, 127)]:
            sign = chr(code)
            for text in (sign + "7", "7" + sign, "7" + sign + "/9", "7/" + sign + "9", "7/9" + sign):
                if sign in "123456789" or text in ("70", "7/90", "-7", "70/9"):
                    continue
                self.fails(InvalidNumber, {"value": text}, Ratio.read, text)

    def test_values_that_are_no_text(self):
        for value in STRANGE + [[], ["3"], (), ("3/4",), {}, {"3": 1}, 3, 0, Ratio(3), Ratio(3, 4)]:
            self.fails(InvalidNumber, {"value": value}, Ratio.read, value)


class WritingTest(Case):

    def test_str(self):
        for top, bottom, wanted in [(3, 4, "3/4"), (-3, 4, "-3/4"), (3, 1, "3"), (-3, 1, "-3"), (0, 5, "0"),
                                    (6, -4, "-3/2"), (1, LONG, "1/" + "9" * 30), (LONG, 1, "9" * 30),
                                    (-LONG, 10 ** 29, "-" + "9" * 30 + "/1" + "0" * 29)]:
            self.assertEqual(str(Ratio(top, bottom)), wanted)
        for top, bottom in pairs():
            self.assertEqual(str(Ratio(top, bottom)), str(Fraction(top, bottom)))

    def test_repr(self):
        for top, bottom, wanted in [(3, 4, "Ratio(3, 4)"), (-3, 4, "Ratio(-3, 4)"), (6, 8, "Ratio(3, 4)"),
                                    (3, 1, "Ratio(3, 1)"), (0, -7, "Ratio(0, 1)"),
                                    (1, LONG, "Ratio(1, " + "9" * 30 + ")")]:
            self.assertEqual(repr(Ratio(top, bottom)), wanted)
        self.assertEqual(repr([Ratio(1, 2)]), "[Ratio(1, 2)]")


class ComparingTest(Case):

    def test_compare_of_all_pairs(self):
        numbers = pairs()[::5]
        for top, bottom in numbers:
            number, exact = Ratio(top, bottom), Fraction(top, bottom)
            for second, third in numbers:
                other = Fraction(second, third)
                wanted = (exact > other) - (exact < other)
                self.same_integer(number.compare(Ratio(second, third)), wanted)
                self.same_integer(number.compare(second), (exact > second) - (exact < second))

    def test_compare_by_name_and_with_itself(self):
        number = Ratio(1, 3)
        self.same_integer(number.compare(number), 0)
        self.same_integer(number.compare(other=1), -1)
        self.same_integer(number.compare(other=Ratio(1, 4)), 1)

    def test_compare_with_numbers_that_are_hardly_other(self):
        for near in (LONG, OTHER):
            one, other = Ratio(near, near + 1), Ratio(near + 1, near + 2)
            self.same_integer(one.compare(other), -1)
            self.same_integer(other.compare(one), 1)
            self.same_integer((-one).compare(-other), 1)

    def test_compare_with_other_values(self):
        for value in NO_NUMBERS:
            self.fails(InvalidNumber, {"value": value}, Ratio(1, 2).compare, value)

    def test_equal(self):
        self.assertTrue(Ratio(1, 2) == Ratio(-2, -4))
        self.assertFalse(Ratio(1, 2) != Ratio(-2, -4))
        for top, bottom in pairs()[::7]:
            for second, third in pairs()[::7]:
                wanted = Fraction(top, bottom) == Fraction(second, third)
                self.assertIs(Ratio(top, bottom) == Ratio(second, third), wanted)
                self.assertIs(Ratio(top, bottom) != Ratio(second, third), not wanted)

    def test_not_equal_to_values_of_another_kind(self):
        for number in (Ratio(2), Ratio(1), Ratio(0), Ratio(1, 2)):
            for value in NO_NUMBERS + [0, 1, 2, str(number), (number.top, number.bottom), [number]]:
                for equal in (number == value, value == number):
                    self.assertIs(equal, False, value)
                for differs in (number != value, value != number):
                    self.assertIs(differs, True, value)


class RoundingTest(Case):

    def test_floor_and_ceiling(self):
        for top, bottom in pairs():
            self.same_integer(Ratio(top, bottom).floor(), Fraction(top, bottom).__floor__())
            self.same_integer(Ratio(top, bottom).ceiling(), Fraction(top, bottom).__ceil__())

    def test_near_0(self):
        for top, bottom, floor, ceiling in [(1, 2, 0, 1), (-1, 2, -1, 0), (0, 3, 0, 0), (3, 3, 1, 1), (-3, 3, -1, -1),
                                            (7, 3, 2, 3), (-7, 3, -3, -2), (1, LONG, 0, 1), (-1, LONG, -1, 0)]:
            self.same_integer(Ratio(top, bottom).floor(), floor)
            self.same_integer(Ratio(top, bottom).ceiling(), ceiling)

    def test_over(self):
        for top, bottom in pairs()[::3]:
            for second, third in pairs()[::11]:
                if second == 0:
                    continue
                wanted = Fraction(top, bottom) / Fraction(second, third)
                self.same_ratio(Ratio(top, bottom).over(Ratio(second, third)), wanted.numerator, wanted.denominator)
                wanted = Fraction(top, bottom) / second
                self.same_ratio(Ratio(top, bottom).over(second), wanted.numerator, wanted.denominator)
        self.same_ratio(Ratio(3, 4).over(other=-6), -1, 8)

    def test_over_0_and_over_other_values(self):
        for zero in (0, Ratio(0), Ratio(0, -9)):
            for number in (Ratio(0), Ratio(3, 4)):
                self.fails(DividedByZero, {}, number.over, zero)
        for value in NO_NUMBERS:
            self.fails(InvalidNumber, {"value": value}, Ratio(3, 4).over, value)


if __name__ == "__main__":
    unittest.main()
