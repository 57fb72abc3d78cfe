"""Curves: the best loads of a yard while the work of one task grows from nothing without end."""

from evenloads.best import best_loads
from evenloads.checks import check_task, check_yard
from evenloads.errors import InvalidNumber, InvalidWork, TooMany
from evenloads.leveling import even_flow, leveled
from evenloads.ratios import Ratio, is_amount, sum_of
from evenloads.rises import Rise


class Curve:
    """The best loads of a yard as one task of it has any work; it never changes."""

    MOST_SERVERS = 8
    MOST_TASKS = 12

    def __init__(self, yard, task):
        check_yard(yard)
        check_task(yard, task)
        check_size(yard)
        self._yard = yard
        self._task = task

    @property
    def yard(self):
        """The yard, in which the task may have any work."""
        return self._yard

    @property
    def task(self):
        """The task whose work grows."""
        return self._task

    def __call__(self, work):
        return best_loads(self._yard_at(work))

    def risers(self, work):
        """The sorted list of the servers whose loads grow behind a work."""
        return level_flow(self._yard_at(work), self._task).closure([self._task])

    def fallers(self, work):
        """The sorted list of the servers whose loads fall when a work becomes a little less."""
        # Without work there is nothing that could become less, and nobody holds the task.
        return level_flow(self._yard_at(work), self._task).behind(self._task)

    def breaks(self):
        """Yield the works, ascending, from which on other servers rise than before."""
        work = Ratio(0)
        risers = []
        while work is not None:
            later = self.risers(work)
            if later != risers:
                yield work
            risers = later
            work = Rise(self._yard_at(work), self._task, risers).end()

    def greatest_work(self, bound):
        """The greatest work at which no load is above an AMOUNT; None if one is above it without work."""
        if not is_amount(bound):
            raise InvalidNumber(bound)
        limit = Ratio.of(bound)
        servers = self._yard.servers()
        others = [task for task in self._yard.tasks() if task != self._task]
        # All others come first, so that what is left is that of this one alone, if they fit.
        places = {task: self._yard.places(task) for task in others + [self._task]}
        yard = self._yard_at(limit * self._yard.speed_of(servers))
        flow, left = even_flow(yard, places, {server: limit for server in servers})
        if any([task in left for task in others]):
            return None
        return sum_of([flow.amount_at(self._task, place) for place in places[self._task]])

    def _yard_at(self, work):
        """The yard in which the task has this work; InvalidWork if it is none."""
        if not is_amount(work):
            raise InvalidWork(work)
        return self._yard.with_work(self._task, work)


def payers(yard, task):
    """The sorted list of the servers whose loads grow when a task's work does."""
    return Curve(yard, task).risers(yard.work(task))


def relieved(yard, task):
    """The sorted list of the servers whose loads fall when a task's work becomes a little less."""
    return Curve(yard, task).fallers(yard.work(task))


def check_size(yard):
    """Raise TooMany for a yard with more servers or tasks than a curve may have."""
    if len(yard.servers()) > Curve.MOST_SERVERS:
        raise TooMany("servers", Curve.MOST_SERVERS)
    if len(yard) > Curve.MOST_TASKS:
        raise TooMany("tasks", Curve.MOST_TASKS)


def level_flow(yard, task):
    """The flow of the level to which a task belongs."""
    flows = [flow for _, _, tasks, flow in leveled(yard) if task in tasks]
    return flows[0]
