"""Exact fractions, the numbers of the package."""

from math import gcd, lcm

from evenloads.basics import is_count, is_integer
from evenloads.errors import DividedByZero, InvalidNumber


class Ratio:
    """A fraction of two INTEGERS in lowest terms with a bottom of at least 1; it never changes."""

    def __init__(self, top, bottom=1):
        # What is_integer asks is written out: nothing else is done as often.
        if not isinstance(top, int) or isinstance(top, bool):
            raise InvalidNumber(top)
        if not isinstance(bottom, int) or isinstance(bottom, bool) or bottom == 0:
            raise InvalidNumber(bottom)
        common = gcd(top, bottom) if bottom > 0 else -gcd(top, bottom)
        self._top = top // common
        self._bottom = bottom // common

    @staticmethod
    def of(value):
        """The Ratio of a NUMBER."""
        return value if isinstance(value, Ratio) else Ratio(value)

    @staticmethod
    def read(text):
        """The Ratio whose str is this text."""
        if not isinstance(text, str):
            raise InvalidNumber(text)
        number = written(text)
        if number is None:
            raise InvalidNumber(text)
        return number

    @property
    def top(self):
        """What stands above the stroke, in lowest terms."""
        return self._top

    @property
    def bottom(self):
        """What stands below the stroke, in lowest terms, at least 1."""
        return self._bottom

    def __add__(self, other):
        second = Ratio.of(other)
        return Ratio(self._top * second.bottom + second.top * self._bottom, self._bottom * second.bottom)

    def __radd__(self, other):
        return Ratio.of(other) + self

    def __sub__(self, other):
        second = Ratio.of(other)
        return Ratio(self._top * second.bottom - second.top * self._bottom, self._bottom * second.bottom)

    def __rsub__(self, other):
        return Ratio.of(other) - self

    def __mul__(self, other):
        second = Ratio.of(other)
        return Ratio(self._top * second.top, self._bottom * second.bottom)

    def __rmul__(self, other):
        return Ratio.of(other) * self

    def __floordiv__(self, other):
        return self.over(other).floor()

    def __rfloordiv__(self, other):
        return Ratio.of(other) // self

    def __mod__(self, other):
        return self - (self // other) * other

    def __rmod__(self, other):
        return Ratio.of(other) % self

    def __neg__(self):
        return Ratio(-self._top, self._bottom)

    def __abs__(self):
        return Ratio(abs(self._top), self._bottom)

    def over(self, other):
        """The quotient by a NUMBER."""
        second = Ratio.of(other)
        if second.top == 0:
            raise DividedByZero()
        return Ratio(self._top * second.bottom, self._bottom * second.top)

    def compare(self, other):
        """-1, 0 or 1, as this is less than, equal to or greater than a NUMBER."""
        second = Ratio.of(other)
        left = self._top * second.bottom
        right = second.top * self._bottom
        if left < right:
            return -1
        return 1 if left > right else 0

    def floor(self):
        """The greatest INTEGER that is not above this number."""
        return self._top // self._bottom

    def ceiling(self):
        """The least INTEGER that is not below this number."""
        return -(-self._top // self._bottom)

    def __eq__(self, other):
        return isinstance(other, Ratio) and self._top == other._top and self._bottom == other._bottom

    def __str__(self):
        if self._bottom == 1:
            return str(self._top)
        return f"{self._top}/{self._bottom}"

    def __repr__(self):
        return f"Ratio({self._top}, {self._bottom})"


def written(text):
    """The Ratio whose str is this string; None if there is none."""
    number = loosely_read(text)
    return number if number is not None and str(number) == text else None


def loosely_read(text):
    """The Ratio that a text writes, though perhaps not as str does; None if it writes none."""
    top, stroke, bottom = text.partition("/")
    if not is_plain_count(top.removeprefix("-")):
        return None
    if stroke == "":
        return Ratio(int(top))
    if not is_plain_count(bottom) or bottom == "0":
        return None
    return Ratio(int(top), int(bottom))


def is_plain_count(text):
    """Whether a text is digits without a needless 0 ahead of them."""
    if text == "" or not all(["0" <= sign <= "9" for sign in text]):
        return False
    return text == "0" or text[0] != "0"


def is_number(value):
    """Whether any value is a NUMBER: an INTEGER or a Ratio."""
    return is_integer(value) or isinstance(value, Ratio)


def is_amount(value):
    """Whether any value is an AMOUNT: a NUMBER that is at least 0."""
    if isinstance(value, Ratio):
        return value._top >= 0
    return is_count(value)


def sum_of(numbers):
    """The sum of a list of NUMBERS, a Ratio also where there are none."""
    ratios = [Ratio.of(number) for number in numbers]
    # With one common bottom the lowest terms are looked for once, not behind each number.
    bottom = common_bottom(ratios)
    return Ratio(sum([ratio._top * (bottom // ratio._bottom) for ratio in ratios]), bottom)


def common_bottom(ratios):
    """The least INTEGER above 0 that all bottoms of a list of Ratios divide, 1 where there are none."""
    common = 1
    for ratio in ratios:
        # Most bottoms divide what is common so far.
        if common % ratio._bottom != 0:
            common = lcm(common, ratio._bottom)
    return common


def whole_parts(ratio, unit):
    """How often a Ratio has the unit-th part of 1, an INTEGER; its bottom must divide the unit."""
    return ratio._top * (unit // ratio._bottom)


def all_whole_parts(ratios, unit):
    """The dict with the same keys as a dict of Ratios to how often each one has the unit-th part of 1."""
    return {key: ratio._top * (unit // ratio._bottom) for key, ratio in ratios.items()}


def positive_ratios(amounts, keys):
    """The dict from those of some keys, in their sequence, that have AMOUNTS above 0 in a dict to these as Ratios."""
    found = {}
    for key in keys:
        if key in amounts:
            amount = amounts[key]
            ratio = amount if isinstance(amount, Ratio) else Ratio(amount)
            if ratio._top > 0:
                found[key] = ratio
    return found


def greatest_of(ratios):
    """The greatest one of a list of Ratios, at least one."""
    greatest = ratios[0]
    for ratio in ratios:
        if ratio.compare(greatest) > 0:
            greatest = ratio
    return greatest


def least_of(ratios):
    """The least one of a list of Ratios, at least one."""
    least = ratios[0]
    for ratio in ratios:
        if ratio.compare(least) < 0:
            least = ratio
    return least
