"""Stage 1 [11]: the operators of Ratio."""

import operator
import random
import unittest
from fractions import Fraction

from evenloads.errors import DividedByZero, InvalidNumber
from evenloads.ratios import Ratio
from evenloads.yards import Yard
from helpers import NO_NUMBERS, Case

LONG = 10 ** 30 - 1
INTEGERS = [0, 1, -1, 2, -3, 7, -12, 1000, LONG, -LONG, 7 ** 35]
SIGNS = [operator.add, operator.sub, operator.mul, operator.floordiv, operator.mod]
QUOTIENTS = [operator.floordiv, operator.mod]


def ratios():
    """Tuples (top, bottom) of both signs, up to thirty digits long."""
    found = [(0, 1), (1, 1), (-1, 1), (1, 2), (-1, 2), (7, 3), (-7, 3), (5, 6), (-22, 7), (12, 1), (LONG, 7),
             (-LONG, 10 ** 29), (1, LONG), (-1, LONG), (7 ** 35, 2 ** 90)]
    chance = random.Random(12)
    for _ in range(15):
        most = 10 ** chance.randint(1, 30) - 1
        found.append((chance.randint(-most, most), chance.randint(1, most)))
    return found


def exactly(sign, one, other):
    """What the document says of a sign between two Fractions."""
    if sign is operator.floordiv:
        return (one / other).__floor__()
    if sign is operator.mod:
        return one - (one / other).__floor__() * other
    return sign(one, other)


class SignsTest(Case):

    def agrees(self, sign, one, other, first, second):
        """A sign between two NUMBERS gives what it gives between two Fractions, or DividedByZero."""
        if sign in QUOTIENTS and second == 0:
            self.fails(DividedByZero, {}, sign, one, other)
            return
        wanted = exactly(sign, first, second)
        if sign is operator.floordiv:
            self.same_integer(sign(one, other), wanted)
        else:
            self.same_ratio(sign(one, other), wanted.numerator, wanted.denominator)

    def test_between_two_ratios(self):
        for sign in SIGNS:
            for top, bottom in ratios():
                for second, third in ratios():
                    self.agrees(sign, Ratio(top, bottom), Ratio(second, third),
                                Fraction(top, bottom), Fraction(second, third))

    def test_with_an_integer_on_either_side(self):
        for sign in SIGNS:
            for top, bottom in ratios():
                for integer in INTEGERS:
                    self.agrees(sign, Ratio(top, bottom), integer, Fraction(top, bottom), Fraction(integer))
                    self.agrees(sign, integer, Ratio(top, bottom), Fraction(integer), Fraction(top, bottom))

    def test_floors_and_remainders_below_0(self):
        self.same_integer(Ratio(-7, 2) // 1, -4)
        self.same_integer(Ratio(7, 2) // -1, -4)
        self.same_integer(Ratio(-7, 2) // -1, 3)
        self.same_integer(-7 // Ratio(2), -4)
        self.same_integer(-1 // Ratio(5, 2), -1)
        self.same_ratio(Ratio(-7, 2) % 1, 1, 2)
        self.same_ratio(Ratio(7, 2) % -1, -1, 2)
        self.same_ratio(Ratio(-7, 2) % -1, -1, 2)
        self.same_ratio(-7 % Ratio(5, 2), 1, 2)
        self.same_ratio(7 % Ratio(-5, 2), -1, 2)

    def test_the_remainder_lies_between_0_and_the_divisor(self):
        for top, bottom in ratios():
            for second, third in ratios():
                if second == 0:
                    continue
                one, other = Ratio(top, bottom), Ratio(second, third)
                rest = one % other
                self.assertEqual(one // other * other + rest, one)
                self.assertIn(rest.compare(0), (0, other.compare(0)))
                self.assertEqual(abs(rest).compare(abs(other)), -1)

    def test_whole_results_are_ratios(self):
        self.same_ratio(Ratio(1, 2) + Ratio(1, 2), 1)
        self.same_ratio(Ratio(1, 2) - Ratio(1, 2), 0)
        self.same_ratio(Ratio(1, 2) * 2, 1)
        self.same_ratio(2 * Ratio(1, 2), 1)
        self.same_ratio(3 - Ratio(2), 1)
        self.same_ratio(Ratio(7) % 2, 1)
        self.same_ratio(sum([Ratio(1, 3), Ratio(2, 3)]), 1)

    def test_minus_and_abs(self):
        for top, bottom in ratios():
            wanted = Fraction(top, bottom)
            self.same_ratio(-Ratio(top, bottom), -wanted.numerator, wanted.denominator)
            self.same_ratio(abs(Ratio(top, bottom)), abs(wanted.numerator), wanted.denominator)

    def test_other_values_on_the_right(self):
        for sign in SIGNS:
            for value in NO_NUMBERS + [Yard({"a": 1})]:
                self.fails(InvalidNumber, {"value": value}, sign, Ratio(3, 4), value)

    def test_other_values_on_the_left(self):
        for sign in SIGNS:
            for value in NO_NUMBERS:
                if sign is operator.mod and isinstance(value, (str, bytes)):
                    continue
                self.fails(InvalidNumber, {"value": value}, sign, value, Ratio(3, 4))

    def test_wrong_values_are_told_ahead_of_a_quotient_by_0(self):
        for sign in QUOTIENTS:
            for value in (None, True, False, [], (0,), {}):
                self.fails(InvalidNumber, {"value": value}, sign, Ratio(0), value)
                self.fails(InvalidNumber, {"value": value}, sign, value, Ratio(0))

    def test_quotients_by_0(self):
        for sign in QUOTIENTS:
            for zero in (0, Ratio(0), Ratio(0, -3)):
                for number in (Ratio(0), Ratio(1), Ratio(-3, 4)):
                    self.fails(DividedByZero, {}, sign, number, zero)
            for integer in INTEGERS:
                self.fails(DividedByZero, {}, sign, integer, Ratio(0))

    def test_operands_stay_as_they_are(self):
        one, other = Ratio(-7, 3), Ratio(5, 4)
        for sign in SIGNS:
            sign(one, other)
            sign(one, 3)
            sign(3, one)
            self.fails(InvalidNumber, {"value": None}, sign, one, None)
        for sign in QUOTIENTS:
            self.fails(DividedByZero, {}, sign, one, 0)
        abs(one), -one, one.over(other), one.compare(other), one.floor(), one.ceiling(), str(one), repr(one)
        self.same_ratio(one, -7, 3)
        self.same_ratio(other, 5, 4)

    def test_changed_in_place_is_another_object(self):
        one = kept = Ratio(1, 2)
        one += 1
        one *= 2
        one -= Ratio(1, 3)
        self.same_ratio(one, 8, 3)
        self.same_ratio(kept, 1, 2)

    def test_numbers_of_many_digits(self):
        total = Ratio(0)
        for bottom in range(1, 41):
            total = total + Ratio(1, bottom)
        wanted = sum(Fraction(1, bottom) for bottom in range(1, 41))
        self.same_ratio(total, wanted.numerator, wanted.denominator)
        power, wanted = Ratio(LONG, 11), Fraction(LONG, 11) ** 6
        for _ in range(5):
            power = power * Ratio(LONG, 11)
        self.same_ratio(power, wanted.numerator, wanted.denominator)
        self.same_ratio(Ratio.read(str(power)), power.top, power.bottom)


if __name__ == "__main__":
    unittest.main()
