"""The best loads of a yard, which every convex cost has in common, and the plans that have them."""

from evenloads.checks import check_yard
from evenloads.leveling import leveled
from evenloads.moves import Move
from evenloads.plans import Plan, check_plan
from evenloads.ratios import least_of


def best_plan(yard):
    """A best plan."""
    check_yard(yard)
    return plan_of(yard, leveled(yard))


def best_loads(yard):
    """The dict of the best loads of all servers."""
    check_yard(yard)
    loads = {}
    for load, servers, _, _ in leveled(yard):
        for server in servers:
            loads[server] = load
    return {server: loads[server] for server in yard.servers()}


def levels(yard):
    """The list of the levels, tuples (load, servers, tasks), the greatest load first."""
    check_yard(yard)
    return [(load, servers, tasks) for load, servers, tasks, _ in leveled(yard)]


def is_best(plan):
    """Whether a plan is best."""
    return first_fault(plan) is None


def first_fault(plan):
    """The first Move, in order, of a task from where it gives to a place with a lesser load; None if there is none."""
    check_plan(plan)
    loads = plan.loads()
    # Ties and places are sorted, so that the moves come in order.
    for task, start in plan.ties():
        for goal in plan.yard.places(task):
            if loads[goal].compare(loads[start]) < 0:
                return Move(task, start, goal)
    return None


def plan_of(yard, found):
    """The best plan that the flows of a yard's levels make."""
    amounts = {}
    for _, _, _, flow in found:
        given = flow.amounts()
        for key in given:
            amounts[key] = given[key]
    return Plan(yard, amounts)


def lightest(yard, task, loads):
    """The sorted list of those places of a task whose load is the least."""
    places = yard.places(task)
    least = least_of([loads[place] for place in places])
    return [place for place in places if loads[place] == least]
