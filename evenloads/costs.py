"""Convex costs of loads, each the greatest of some lines."""

from evenloads.errors import InvalidLines, InvalidNumber
from evenloads.plans import check_plan, gains_of
from evenloads.ratios import Ratio, common_bottom, is_number, whole_parts
from evenloads.yards import speeds_of


class Cost:
    """The greatest of some lines, tuples of a slope and a height; it never changes."""

    def __init__(self, *lines):
        if len(lines) == 0:
            raise InvalidLines(None)
        for position, line in enumerate(lines):
            if not is_line(line):
                raise InvalidLines(position)
        self._lines = [(Ratio.of(slope), Ratio.of(height)) for slope, height in lines]
        # The same in whole numbers of one small unit, with which the cost of a plan is summed up much faster.
        self._unit = common_bottom([number for line in self._lines for number in line])
        self._whole = [(whole_parts(slope, self._unit), whole_parts(height, self._unit))
                       for slope, height in self._lines]

    @staticmethod
    def hinge(bound):
        """The cost of what a load is above a bound."""
        if not is_number(bound):
            raise InvalidNumber(bound)
        return Cost((0, 0), (1, -bound))

    def __call__(self, load):
        if not is_number(load):
            raise InvalidNumber(load)
        number = Ratio.of(load)
        return Ratio(self._at(number.top, number.bottom), self._unit * number.bottom)

    def of_plan(self, plan):
        """The cost of a plan: the sum of each speed times the cost of the load."""
        check_plan(plan)
        gained, unit = gains_of(plan)
        # The speed times a line is the slope times the work, and the speed times the height.
        costs = [self._at(gained[server], speed * unit) for server, speed in speeds_of(plan.yard).items()]
        return Ratio(sum(costs), self._unit * unit)

    def lines(self):
        """The list of the lines, tuples of Ratios."""
        return list(self._lines)

    def __add__(self, other):
        if not isinstance(other, Cost):
            raise InvalidLines(None)
        sums = []
        for slope, height in self._lines:
            for further, higher in other._lines:
                sums.append((slope + further, height + higher))
        return Cost(*sums)

    def __eq__(self, other):
        return isinstance(other, Cost) and self._lines == other._lines

    def _at(self, work, speed):
        """The cost of a work on a speed, all in whole numbers."""
        return max([int(slope * work + height * speed) for slope, height in self._whole])


def is_line(value):
    """Whether any value is a tuple of two NUMBERS."""
    return isinstance(value, tuple) and len(value) == 2 and is_number(value[0]) and is_number(value[1])
