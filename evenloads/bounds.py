"""Bounds of the loads: a plan within them, or a set of servers that bars every such plan."""

from evenloads.checks import bounds_of, check_yard, is_server_set
from evenloads.errors import Overfull
from evenloads.leveling import even_flow, leveled
from evenloads.plans import Plan, check_plan
from evenloads.ratios import sum_of


def is_within(plan, bounds):
    """Whether no load of a plan is above its bound."""
    check_plan(plan)
    limits = bounds_of(plan.yard, bounds)
    return all([plan.load(server).compare(limits[server]) <= 0 for server in limits])


def plan_within(yard, bounds):
    """A plan within bounds; None if there is none."""
    found, _ = fitted(yard, bounds)
    return found


def bar(yard, bounds):
    """A bar, a sorted list, that tells why no plan is within bounds; None if there is none."""
    _, barring = fitted(yard, bounds)
    return barring


def is_bar(yard, bounds, value):
    """Whether any value is a list of different servers that is a bar."""
    check_yard(yard)
    limits = bounds_of(yard, bounds)
    if not is_server_set(yard, value) or len(value) == 0:
        return False
    room = sum_of([limits[server] * yard.speed(server) for server in value])
    return yard.weight(value).compare(room) > 0


def place_all(yard, bounds):
    """A plan within bounds; Overfull with a bar if there is none."""
    found, barring = fitted(yard, bounds)
    if found is None:
        raise Overfull(barring)
    return found


def least_top(yard):
    """The least number such that some plan has no load above it."""
    check_yard(yard)
    load, _, _, _ = leveled(yard)[0]
    return load


def top_set(yard):
    """The sorted list of the greatest set of servers whose density is the least top."""
    check_yard(yard)
    _, servers, _, _ = leveled(yard)[0]
    return servers


def fitted(yard, bounds):
    """A tuple of a plan within bounds and None, or of None and a bar."""
    check_yard(yard)
    limits = bounds_of(yard, bounds)
    flow, left = even_flow(yard, {task: yard.places(task) for task in yard.tasks()}, limits)
    if len(left) > 0:
        return None, flow.closure(left)
    return Plan(yard, flow.amounts()), None
