"""Every error that the package raises, each with what it tells as attributes."""


class LoadError(ValueError):
    """A value of which what was asked for cannot be made."""


class InvalidNumber(LoadError):
    """A value that is no number as asked for."""

    def __init__(self, value):
        self.value = value


class InvalidName(LoadError):
    """A value that is no NAME, or a goal that is its own start."""

    def __init__(self, value):
        self.value = value


class InvalidMoves(LoadError):
    """Moves that are no chain, from this position on; None where it is no single move."""

    def __init__(self, position):
        self.position = position


class InvalidServers(LoadError):
    """A value that is no dict or no list of servers as asked for."""

    def __init__(self, value):
        self.value = value


class InvalidSpeed(LoadError):
    """A server whose speed is no INTEGER within the limits."""

    def __init__(self, server):
        self.server = server


class InvalidTasks(LoadError):
    """A value that is no dict of tasks, or no further task."""

    def __init__(self, value):
        self.value = value


class InvalidTask(LoadError):
    """A task whose work or places are not as asked for."""

    def __init__(self, name):
        self.name = name


class InvalidWork(LoadError):
    """A value that is no AMOUNT of work."""

    def __init__(self, value):
        self.value = value


class InvalidYard(LoadError):
    """A value that is no Yard."""

    def __init__(self, value):
        self.value = value


class InvalidAmounts(LoadError):
    """A value that tells no amounts of tasks at their places."""

    def __init__(self, value):
        self.value = value


class WrongSum(LoadError):
    """A task whose amounts do not sum to its work."""

    def __init__(self, name):
        self.name = name


class InvalidPlan(LoadError):
    """A value that is no Plan."""

    def __init__(self, value):
        self.value = value


class InvalidGift(LoadError):
    """A value that is no Gift."""

    def __init__(self, value):
        self.value = value


class InvalidShare(LoadError):
    """A value that is no NUMBER from 0 to 1."""

    def __init__(self, value):
        self.value = value


class InvalidLines(LoadError):
    """Lines of a cost, wrong at this position; None where there are none."""

    def __init__(self, position):
        self.position = position


class InvalidBounds(LoadError):
    """A value that tells no bounds of the servers."""

    def __init__(self, value):
        self.value = value


class InvalidAssignment(LoadError):
    """A value that is no Assignment, or puts jobs at none."""

    def __init__(self, value):
        self.value = value


class InvalidText(LoadError):
    """A text that is not that of a yard, wrong in this line."""

    def __init__(self, line):
        self.line = line


class InvalidClaim(LoadError):
    """A value that is no claim."""

    def __init__(self, value):
        self.value = value


class InvalidCommand(LoadError):
    """A value that is no command of a board."""

    def __init__(self, value):
        self.value = value


class MissingError(LookupError):
    """A name under which there is nothing."""


class UnknownServer(MissingError):
    """A value that is no server of the yard."""

    def __init__(self, value):
        self.value = value


class UnknownTask(MissingError):
    """A value that is no task of the yard."""

    def __init__(self, value):
        self.value = value


class UnknownPlace(MissingError):
    """A task and a server that is none of its places."""

    def __init__(self, value):
        self.value = value


class StateError(RuntimeError):
    """Valid values that do not fit what is there."""


class ServerTaken(StateError):
    """A name that a server has already."""

    def __init__(self, value):
        self.value = value


class TaskTaken(StateError):
    """A name that a task has already."""

    def __init__(self, value):
        self.value = value


class PlaceTaken(StateError):
    """A task and a server that is its place already."""

    def __init__(self, value):
        self.value = value


class LastPlace(StateError):
    """A task and the only place that it has."""

    def __init__(self, value):
        self.value = value


class OtherServers(StateError):
    """Two yards whose servers or speeds are not the same."""

    def __init__(self, one, other):
        self.one = one
        self.other = other


class OtherYard(StateError):
    """Two yards that are not equal."""

    def __init__(self, one, other):
        self.one = one
        self.other = other


class Impossible(StateError):
    """A gift that is not possible, for the move at this position."""

    def __init__(self, position):
        self.position = position


class Overfull(StateError):
    """A bar, for which no plan is within the bounds."""

    def __init__(self, bar):
        self.bar = bar


class OutOfSpan(StateError):
    """An amount that no best plan gives."""

    def __init__(self, value):
        self.value = value


class NotWhole(StateError):
    """A yard whose tasks are not all jobs."""

    def __init__(self, value):
        self.value = value


class NothingToUndo(StateError):
    """A board without a change that could be taken back."""

    def __init__(self):
        pass


class CommandFailed(StateError):
    """Commands of which the one at this position raised an error."""

    def __init__(self, position):
        self.position = position


class LimitError(ArithmeticError):
    """What goes beyond what can be worked out."""


class DividedByZero(LimitError):
    """A quotient by 0."""

    def __init__(self):
        pass


class TooMany(LimitError):
    """More of these than the limit allows."""

    def __init__(self, what, limit):
        self.what = what
        self.limit = limit
