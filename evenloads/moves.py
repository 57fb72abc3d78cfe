"""Moves of a task between two servers, chains of moves, and the gifts that follow a chain."""

from evenloads.basics import is_name
from evenloads.errors import InvalidMoves, InvalidName, InvalidNumber
from evenloads.ratios import Ratio, is_amount


class Move:
    """A task and two different servers, its start and its goal; it never changes."""

    def __init__(self, task, start, goal):
        for name in (task, start, goal):
            if not is_name(name):
                raise InvalidName(name)
        if goal == start:
            raise InvalidName(goal)
        self._names = (task, start, goal)

    @property
    def task(self):
        """The task that is moved."""
        return self._names[0]

    @property
    def start(self):
        """The server from which the task is moved."""
        return self._names[1]

    @property
    def goal(self):
        """The server to which the task is moved."""
        return self._names[2]

    def __lt__(self, other):
        if not isinstance(other, Move):
            return NotImplemented
        return self._names < other._names

    def __le__(self, other):
        if not isinstance(other, Move):
            return NotImplemented
        return self._names <= other._names

    def __gt__(self, other):
        if not isinstance(other, Move):
            return NotImplemented
        return self._names > other._names

    def __ge__(self, other):
        if not isinstance(other, Move):
            return NotImplemented
        return self._names >= other._names

    def __eq__(self, other):
        if not isinstance(other, Move):
            return False
        return self._names == other._names

    def __neg__(self):
        return Move(self.task, self.goal, self.start)

    def __str__(self):
        return f"{self.task}: {self.start} to {self.goal}"

    def __repr__(self):
        return f"Move({self.task!r}, {self.start!r}, {self.goal!r})"


class Gift:
    """An amount above 0 and a chain of moves that it takes; it never changes."""

    def __init__(self, amount, *moves):
        check_gift_amount(amount)
        if len(moves) == 0:
            raise InvalidMoves(None)
        position = break_of(moves)
        if position is not None:
            raise InvalidMoves(position)
        self._amount = Ratio.of(amount)
        self._moves = moves

    @staticmethod
    def single(amount, task, start, goal):
        """The gift of one move."""
        # Checked here, too, as a wrong amount is told ahead of wrong names.
        check_gift_amount(amount)
        return Gift(amount, Move(task, start, goal))

    @property
    def amount(self):
        """How much each move takes along, a Ratio."""
        return self._amount

    @property
    def start(self):
        """The server that gives."""
        return self._moves[0].start

    @property
    def goal(self):
        """The server that gets."""
        return self._moves[-1].goal

    def moves(self):
        """The list of the moves."""
        return list(self._moves)

    def __len__(self):
        return len(self._moves)

    def __neg__(self):
        back = [-move for move in self._moves[::-1]]
        return Gift(self._amount, *back)

    def __eq__(self, other):
        return isinstance(other, Gift) and self._amount == other._amount and self._moves == other._moves


def is_chain(value):
    """Whether any value is a list of Moves that is a chain."""
    return isinstance(value, (list, tuple)) and len(value) > 0 and break_of(value) is None


def break_of(moves):
    """The position of the first one that is no Move or with which these are no chain; None if there is none."""
    visited = []
    for position, move in enumerate(moves):
        if not isinstance(move, Move):
            return position
        if position == 0:
            visited.append(move.start)
        if move.start != visited[-1] or move.goal in visited:
            return position
        visited.append(move.goal)
    return None


def check_gift_amount(amount):
    """Raise the error that is due if this is no AMOUNT above 0."""
    if not is_amount(amount) or Ratio.of(amount).top == 0:
        raise InvalidNumber(amount)
