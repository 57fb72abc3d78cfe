"""Plans: how much of each task's work lies at each of its places, and the loads that this makes."""

from evenloads.basics import is_name
from evenloads.checks import check_server, check_task, check_yard
from evenloads.errors import Impossible, InvalidAmounts, InvalidGift, InvalidNumber, InvalidPlan, InvalidShare
from evenloads.errors import OtherYard, WrongSum
from evenloads.moves import Gift
from evenloads.ratios import Ratio, greatest_of, is_amount, is_number, sum_of


class Plan:
    """The amounts that the tasks of a yard give to their places; it never changes."""

    def __init__(self, yard, amounts):
        check_yard(yard)
        if not is_amounts(yard, amounts):
            raise InvalidAmounts(amounts)
        self._yard = yard
        self._amounts = positive_amounts(yard, amounts)
        check_sums(yard, self._amounts)
        self._loads = loads_of(yard, self._amounts)

    @staticmethod
    def first(yard):
        """The plan in which each task gives all its work to its least place by name."""
        check_yard(yard)
        return Plan(yard, {(task, yard.places(task)[0]): yard.work(task) for task in yard.tasks()})

    @staticmethod
    def shared(yard):
        """The plan in which each task gives the same amount to each of its places."""
        check_yard(yard)
        parts = {task: yard.work(task).over(len(yard.places(task))) for task in yard.tasks()}
        return Plan(yard, {(task, place): parts[task] for task, place in places_of(yard)})

    @property
    def yard(self):
        """The yard of which this is a plan."""
        return self._yard

    @property
    def top(self):
        """The greatest load."""
        return greatest_of(list(self._loads.values()))

    def __getitem__(self, at):
        if not isinstance(at, tuple) or len(at) != 2:
            raise InvalidAmounts(at)
        task, server = at
        check_task(self._yard, task)
        check_server(self._yard, server)
        return self._amount_at(task, server)

    def __iter__(self):
        raise TypeError("a plan is not iterated over")

    def amounts(self):
        """The dict of the amounts above 0, from tuples (task, server)."""
        return {key: self._amounts[key] for key in self._amounts}

    def ties(self):
        """The sorted list of the tuples (task, server) with an amount above 0."""
        return list(self._amounts)

    def load(self, server):
        """The load of a server."""
        check_server(self._yard, server)
        return self._loads[server]

    def loads(self):
        """The dict of the loads of all servers."""
        return dict(self._loads)

    def __eq__(self, other):
        return isinstance(other, Plan) and self._yard == other._yard and self._amounts == other._amounts

    def above(self, bound):
        """The cost of this plan for the hinge at a NUMBER."""
        if not is_number(bound):
            raise InvalidNumber(bound)
        return sum_of([(load - bound) * self._yard.speed(server) for server, load in self._loads.items()
                       if load.compare(bound) > 0])

    def never_dearer(self, plan):
        """Whether for every convex function the cost of this plan is at most that of another one."""
        return self.parting(plan) is None

    def parting(self, plan):
        """The least load of this and another plan at whose hinge this one is dearer; None if there is none."""
        self._check_other(plan)
        least = None
        for load in list(self._loads.values()) + list(plan._loads.values()):
            if least is None or load.compare(least) < 0:
                if self.above(load).compare(plan.above(load)) > 0:
                    least = load
        return least

    def mix(self, plan, share):
        """The mix of this plan, which has the share, and of another one, which has the rest."""
        check_plan(plan)
        if not is_amount(share) or Ratio.of(share).compare(1) > 0:
            raise InvalidShare(share)
        self._check_other(plan)
        amounts = {}
        for task, place in places_of(self._yard):
            amounts[task, place] = self._amount_at(task, place) * share + plan._amount_at(task, place) * (1 - share)
        return Plan(self._yard, amounts)

    def __rshift__(self, other):
        if not isinstance(other, Gift):
            raise InvalidGift(other)
        position = self._hindrance(other)
        if position is not None:
            raise Impossible(position)
        amounts = {key: self._amounts[key] for key in self._amounts}
        for move in other.moves():
            amounts[move.task, move.start] = amounts[move.task, move.start] - other.amount
            amounts[move.task, move.goal] = amounts.get((move.task, move.goal), Ratio(0)) + other.amount
        return Plan(self._yard, amounts)

    def __or__(self, other):
        if not isinstance(other, Plan):
            raise InvalidPlan(other)
        amounts = {key: self._amounts[key] for key in self._amounts}
        for key in other._amounts:
            amounts[key] = other._amounts[key]
        return Plan(self._yard | other._yard, amounts)

    def is_possible(self, gift):
        """Whether any value is a Gift that is possible in this plan."""
        return isinstance(gift, Gift) and self._hindrance(gift) is None

    def is_downhill(self, gift):
        """Whether any value is a Gift that is downhill in this plan."""
        if not self.is_possible(gift):
            return False
        start = self._loads[gift.start]
        goal = self._loads[gift.goal]
        # The servers between them pass on what they get, so that their loads stay.
        lowered = start - gift.amount.over(self._yard.speed(gift.start))
        raised = goal + gift.amount.over(self._yard.speed(gift.goal))
        return start.compare(goal) > 0 and lowered.compare(raised) >= 0

    def _amount_at(self, task, server):
        """The amount of a task at a server, 0 if it has none there."""
        return self._amounts.get((task, server), Ratio(0))

    def _hindrance(self, gift):
        """The position of the first move for which a gift is not possible; None if there is none."""
        for position, move in enumerate(gift.moves()):
            if move.task not in self._yard or move.goal not in self._yard.places(move.task):
                return position
            if self._amount_at(move.task, move.start).compare(gift.amount) < 0:
                return position
        return None

    def _check_other(self, plan):
        """Raise the error that is due if a value is no plan of an equal yard."""
        check_plan(plan)
        if self._yard != plan._yard:
            raise OtherYard(self._yard, plan._yard)


def check_plan(plan):
    """Raise InvalidPlan for any value that is no Plan."""
    if not isinstance(plan, Plan):
        raise InvalidPlan(plan)


def places_of(yard):
    """The sorted list of all tuples of a task and one of its places."""
    return [(task, place) for task in yard.tasks() for place in yard.places(task)]


def is_amounts(yard, value):
    """Whether any value is a dict from tuples of a task and one of its places to AMOUNTS."""
    if not isinstance(value, dict):
        return False
    return all([is_place(yard, key) and is_amount(value[key]) for key in value])


def is_place(yard, value):
    """Whether any value is a tuple of a task of the yard and one of its places."""
    if not isinstance(value, tuple) or len(value) != 2:
        return False
    task, place = value
    return task in yard and is_name(place) and place in yard.places(task)


def positive_amounts(yard, amounts):
    """The amounts above 0 of a dict, as Ratios, in the sequence of their sorted keys."""
    given = {}
    for key in places_of(yard):
        if key in amounts and Ratio.of(amounts[key]).top > 0:
            given[key] = Ratio.of(amounts[key])
    return given


def check_sums(yard, given):
    """Raise WrongSum for the least task whose amounts, all those above 0, do not sum to its work."""
    for task in yard.tasks():
        parts = [given[task, place] for place in yard.places(task) if (task, place) in given]
        if sum_of(parts) != yard.work(task):
            raise WrongSum(task)


def loads_of(yard, given):
    """The dict of the loads that amounts make."""
    loads = {}
    for server in yard.servers():
        gained = sum_of([given[task, place] for task, place in given if place == server])
        loads[server] = gained.over(yard.speed(server))
    return loads
