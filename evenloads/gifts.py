"""Gifts that lead a plan to a best one, none of which makes any convex cost greater."""

from evenloads.basics import least_count, sorted_names
from evenloads.best import best_loads, is_best, lightest
from evenloads.flows import chain_to, given_along, reached, shift
from evenloads.moves import Gift, Move
from evenloads.plans import Plan, check_plan
from evenloads.ratios import Ratio, all_whole_parts, common_bottom


def gifts_to_best(plan):
    """Yield Gifts that lead a plan to a best one, each downhill when its turn comes."""
    check_plan(plan)
    leader = Leader(plan)
    gift = leader.next_gift()
    while gift is not None:
        yield gift
        gift = leader.next_gift()


def is_leading(plan, value):
    """Whether any value is a list of Gifts, each downhill when its turn comes, that lead a plan to a best one."""
    check_plan(plan)
    if not isinstance(value, (list, tuple)):
        return False
    current = plan
    for gift in value:
        if not current.is_downhill(gift):
            return False
        current = current >> gift
    return is_best(current)


def led(plan):
    """The best plan behind gifts that lead a plan there; the plan itself if it is best."""
    check_plan(plan)
    if is_best(plan):
        return plan
    leader = Leader(plan)
    while leader.next_gift() is not None:
        pass
    return Plan(plan.yard, leader.amounts())


class Leader:
    """What each task of a plan gives to which server, in whole numbers, while gifts lead it to a best plan.

    Each move of a gift goes to a least place of its task, so best loads never grow along it. That makes it downhill:
    the start stays at its best load or above, the goal at its own or below. While a server is above its best load
    there is such a gift, as any best plan differs from this one by such moves alone.
    """

    def __init__(self, plan):
        yard = plan.yard
        loads = best_loads(yard)
        amounts = plan.amounts()
        wanted = {server: loads[server] * yard.speed(server) for server in loads}
        self._unit = common_bottom(list(amounts.values()) + list(wanted.values()))
        self._places = {task: lightest(yard, task, loads) for task in yard.tasks()}
        self._held = {server: {} for server in loads}
        # How much more each server has than at its best load.
        self._surplus = {server: -part for server, part in all_whole_parts(wanted, self._unit).items()}
        for (task, server), part in all_whole_parts(amounts, self._unit).items():
            self._held[server][task] = part
            self._surplus[server] = self._surplus[server] + part

    def next_gift(self):
        """A gift from a server above its best load to one below it, as great as both allow; None if there is none."""
        fuller = [server for server, surplus in self._surplus.items() if surplus > 0]
        emptier = [server for server, surplus in self._surplus.items() if surplus < 0]
        # Sorted, so that the same gifts come whatever was shifted before.
        givers = {server: sorted_names(self._held[server]) for server in self._held}
        found = reached(fuller, givers, self._places, None, emptier)
        goals = [server for server in found if server in emptier]
        if len(goals) == 0:
            return None
        return self._gift_along(chain_to(found, goals[0]))

    def amounts(self):
        """The dict of the amounts behind all gifts, as a plan takes it."""
        return {(task, server): Ratio(part, self._unit) for server, held in self._held.items()
                for task, part in held.items()}

    def _gift_along(self, chain):
        """The greatest gift along a chain that takes no server past its best load; it is shifted here, too."""
        start = chain[0][1]
        goal = chain[-1][2]
        amount = least_count([self._surplus[start], -self._surplus[goal]] + given_along(chain, self._held))
        shift(chain, amount, self._held)
        self._surplus[start] = self._surplus[start] - amount
        self._surplus[goal] = self._surplus[goal] + amount
        moves = [Move(task, server, further) for task, server, further in chain]
        return Gift(Ratio(amount, self._unit), *moves)
