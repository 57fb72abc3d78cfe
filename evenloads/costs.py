"""Convex costs of loads, each the greatest of some lines."""

from evenloads.errors import InvalidLines, InvalidNumber
from evenloads.plans import check_plan
from evenloads.ratios import Ratio, greatest_of, is_number, sum_of


class Cost:
    """The greatest of some lines, tuples of a slope and a height; it never changes."""

    def __init__(self, *lines):
        if len(lines) == 0:
            raise InvalidLines(None)
        for position, line in enumerate(lines):
            if not is_line(line):
                raise InvalidLines(position)
        self._lines = [(Ratio.of(slope), Ratio.of(height)) for slope, height in lines]

    @staticmethod
    def hinge(bound):
        """The cost of what a load is above a bound."""
        if not is_number(bound):
            raise InvalidNumber(bound)
        return Cost((0, 0), (1, -bound))

    def __call__(self, load):
        if not is_number(load):
            raise InvalidNumber(load)
        return self._at(load)

    def of_plan(self, plan):
        """The cost of a plan: the sum of each speed times the cost of the load."""
        check_plan(plan)
        yard = plan.yard
        return sum_of([self._at(load) * yard.speed(server) for server, load in plan.loads().items()])

    def lines(self):
        """The list of the lines, tuples of Ratios."""
        return list(self._lines)

    def __add__(self, other):
        if not isinstance(other, Cost):
            raise InvalidLines(None)
        sums = []
        for slope, height in self._lines:
            for further, higher in other._lines:
                sums.append((slope + further, height + higher))
        return Cost(*sums)

    def __eq__(self, other):
        return isinstance(other, Cost) and self._lines == other._lines

    def _at(self, load):
        """The cost of a load that is known to be a NUMBER."""
        return greatest_of([slope * load + height for slope, height in self._lines])


def is_line(value):
    """Whether any value is a tuple of two NUMBERS."""
    return isinstance(value, tuple) and len(value) == 2 and is_number(value[0]) and is_number(value[1])
