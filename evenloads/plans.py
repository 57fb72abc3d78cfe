"""Plans: how much of each task's work lies at each of its places, and the loads that this makes."""

from math import lcm

from evenloads.checks import check_server, check_task, check_yard
from evenloads.errors import Impossible, InvalidAmounts, InvalidGift, InvalidNumber, InvalidPlan, InvalidShare
from evenloads.errors import OtherYard, WrongSum
from evenloads.moves import Gift
from evenloads.ratios import Ratio, all_whole_parts, common_bottom, greatest_of, is_amount, is_number
from evenloads.ratios import positive_ratios, whole_parts
from evenloads.yards import pairs_of, speeds_of, works_of


class Plan:
    """The amounts that the tasks of a yard give to their places; it never changes."""

    def __init__(self, yard, amounts):
        check_yard(yard)
        if not is_amounts(yard, amounts):
            raise InvalidAmounts(amounts)
        self._yard = yard
        self._amounts = positive_ratios(amounts, pairs_of(yard))
        # The same in whole numbers of one small unit, which sums and comparisons are much faster with.
        self._unit = common_bottom(list(self._amounts.values()))
        self._parts = all_whole_parts(self._amounts, self._unit)
        self._gained = gained_from(yard, self._parts, self._unit)
        self._loads = {server: Ratio(self._gained[server], self._unit * speed)
                       for server, speed in speeds_of(yard).items()}

    @staticmethod
    def first(yard):
        """The plan in which each task gives all its work to its least place by name."""
        check_yard(yard)
        return Plan(yard, {(task, yard.places(task)[0]): work for task, work in works_of(yard).items()})

    @staticmethod
    def shared(yard):
        """The plan in which each task gives the same amount to each of its places."""
        check_yard(yard)
        amounts = {}
        for task, work in works_of(yard).items():
            places = yard.places(task)
            part = Ratio(work.top, work.bottom * len(places))
            for place in places:
                amounts[task, place] = part
        return Plan(yard, amounts)

    @property
    def yard(self):
        """The yard of which this is a plan."""
        return self._yard

    @property
    def top(self):
        """The greatest load."""
        return greatest_of(list(self._loads.values()))

    def __getitem__(self, at):
        if not isinstance(at, tuple) or len(at) != 2:
            raise InvalidAmounts(at)
        task, server = at
        check_task(self._yard, task)
        check_server(self._yard, server)
        return self._amount_at(task, server)

    def __iter__(self):
        raise TypeError("a plan is not iterated over")

    def amounts(self):
        """The dict of the amounts above 0, from tuples (task, server)."""
        return {key: amount for key, amount in self._amounts.items()}

    def ties(self):
        """The sorted list of the tuples (task, server) with an amount above 0."""
        return list(self._amounts)

    def load(self, server):
        """The load of a server."""
        check_server(self._yard, server)
        return self._loads[server]

    def loads(self):
        """The dict of the loads of all servers."""
        return dict(self._loads)

    def __eq__(self, other):
        return (isinstance(other, Plan) and self._yard == other._yard
                and self._unit == other._unit and self._parts == other._parts)

    def above(self, bound):
        """The cost of this plan for the hinge at a NUMBER."""
        if not is_number(bound):
            raise InvalidNumber(bound)
        number = Ratio.of(bound)
        limit = number.top * self._unit
        beyond = [max(0, self._gained[server] * number.bottom - speed * limit)
                  for server, speed in speeds_of(self._yard).items()]
        return Ratio(sum(beyond), self._unit * number.bottom)

    def never_dearer(self, plan):
        """Whether for every convex function the cost of this plan is at most that of another one."""
        return self.parting(plan) is None

    def parting(self, plan):
        """The least load of this and another plan at whose hinge this one is dearer; None if there is none."""
        self._check_other(plan)
        unit = common_bottom(list(self._loads.values()) + list(plan._loads.values()))
        speeds = {}
        for server, speed in speeds_of(self._yard).items():
            mine = whole_parts(self._loads[server], unit)
            theirs = whole_parts(plan._loads[server], unit)
            speeds[mine] = speeds.get(mine, 0) + speed
            speeds[theirs] = speeds.get(theirs, 0) - speed
        least = least_parting(speeds)
        return None if least is None else Ratio(least, unit)

    def mix(self, plan, share):
        """The mix of this plan, which has the share, and of another one, which has the rest."""
        check_plan(plan)
        if not is_amount(share) or Ratio.of(share).compare(1) > 0:
            raise InvalidShare(share)
        self._check_other(plan)
        given = Ratio.of(share)
        unit = lcm(self._unit, plan._unit)
        mine = given.top * (unit // self._unit)
        theirs = (given.bottom - given.top) * (unit // plan._unit)
        amounts = {}
        for key in pairs_of(self._yard):
            part = self._parts.get(key, 0) * mine + plan._parts.get(key, 0) * theirs
            if part > 0:
                amounts[key] = Ratio(part, unit * given.bottom)
        return Plan(self._yard, amounts)

    def __rshift__(self, other):
        if not isinstance(other, Gift):
            raise InvalidGift(other)
        position = self._hindrance(other)
        if position is not None:
            raise Impossible(position)
        amounts = {key: amount for key, amount in self._amounts.items()}
        for move in other.moves():
            amounts[move.task, move.start] = amounts[move.task, move.start] - other.amount
            amounts[move.task, move.goal] = amounts.get((move.task, move.goal), Ratio(0)) + other.amount
        return Plan(self._yard, amounts)

    def __or__(self, other):
        if not isinstance(other, Plan):
            raise InvalidPlan(other)
        amounts = {key: amount for key, amount in self._amounts.items()}
        for key, amount in other._amounts.items():
            amounts[key] = amount
        return Plan(self._yard | other._yard, amounts)

    def is_possible(self, gift):
        """Whether any value is a Gift that is possible in this plan."""
        return isinstance(gift, Gift) and self._hindrance(gift) is None

    def is_downhill(self, gift):
        """Whether any value is a Gift that is downhill in this plan."""
        if not self.is_possible(gift):
            return False
        speeds = speeds_of(self._yard)
        moved = gift.amount.top * self._unit
        # As an amount is above 0, the start has more ahead of a gift behind which it has no less. Loads are compared
        # without dividing by the speeds; the servers between the two pass on what they get.
        lowered = self._gained[gift.start] * gift.amount.bottom - moved
        raised = self._gained[gift.goal] * gift.amount.bottom + moved
        return lowered * speeds[gift.goal] >= raised * speeds[gift.start]

    def _amount_at(self, task, server):
        """The amount of a task at a server, 0 if it has none there."""
        return self._amounts.get((task, server), Ratio(0))

    def _hindrance(self, gift):
        """The position of the first move for which a gift is not possible; None if there is none."""
        pairs = pairs_of(self._yard)
        least = gift.amount.top * self._unit
        for position, move in enumerate(gift.moves()):
            given = self._parts.get((move.task, move.start), 0) * gift.amount.bottom
            if (move.task, move.goal) not in pairs or given < least:
                return position
        return None

    def _check_other(self, plan):
        """Raise the error that is due if a value is no plan of an equal yard."""
        check_plan(plan)
        if self._yard != plan._yard:
            raise OtherYard(self._yard, plan._yard)


def check_plan(plan):
    """Raise InvalidPlan for any value that is no Plan."""
    if not isinstance(plan, Plan):
        raise InvalidPlan(plan)


def places_of(yard):
    """The sorted list of all tuples of a task and one of its places."""
    return list(pairs_of(yard))


def gains_of(plan):
    """The dict of how much work each server of a plan gets, in whole numbers of a unit, and this unit's bottom."""
    return plan._gained, plan._unit


def is_amounts(yard, value):
    """Whether any value is a dict from tuples of a task and one of its places to AMOUNTS."""
    if not isinstance(value, dict):
        return False
    pairs = pairs_of(yard)
    return all([isinstance(key, tuple) and key in pairs and is_amount(amount) for key, amount in value.items()])


def gained_from(yard, parts, unit):
    """The dict of the sums of the parts at all servers; WrongSum if those of a task do not sum to its work."""
    works = works_of(yard)
    spread = {task: 0 for task in works}
    gained = {server: 0 for server in speeds_of(yard)}
    for (task, place), part in parts.items():
        spread[task] = spread[task] + part
        gained[place] = gained[place] + part
    for task, work in works.items():
        if spread[task] * work.bottom != work.top * unit:
            raise WrongSum(task)
    return gained


def least_parting(speeds):
    """The least load at whose hinge the first one of two plans is dearer; None if there is none.

    The dict has all loads of both plans, in whole numbers, each with the speeds of the first plan's servers that have
    this load less those of the second one's.
    """
    least = None
    speed = work = 0
    # From the greatest load down, only what lies above a hinge counts for it.
    for load in sorted([int(load) for load in speeds], reverse=True):
        if work > speed * load:
            least = load
        speed = speed + speeds[load]
        work = work + speeds[load] * load
    return least
