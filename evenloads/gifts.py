"""Gifts that lead a plan to a best one, none of which makes any convex cost greater."""

from evenloads.best import best_loads, is_best, lightest
from evenloads.flows import chain_to, reached
from evenloads.moves import Gift, Move
from evenloads.plans import check_plan
from evenloads.ratios import least_of


def gifts_to_best(plan):
    """Yield Gifts that lead a plan to a best one, each downhill when its turn comes."""
    check_plan(plan)
    yard = plan.yard
    loads = best_loads(yard)
    places = {task: lightest(yard, task, loads) for task in yard.tasks()}
    current = plan
    gift = next_gift(current, loads, places)
    while gift is not None:
        yield gift
        current = current >> gift
        gift = next_gift(current, loads, places)


def is_leading(plan, value):
    """Whether any value is a list of Gifts, each downhill when its turn comes, that lead a plan to a best one."""
    check_plan(plan)
    if not isinstance(value, (list, tuple)):
        return False
    current = plan
    for gift in value:
        if not current.is_downhill(gift):
            return False
        current = current >> gift
    return is_best(current)


def led(plan):
    """The best plan behind gifts that lead a plan there; the plan itself if it is best."""
    current = plan
    for gift in gifts_to_best(plan):
        current = current >> gift
    return current


def next_gift(plan, loads, places):
    """A gift from a server above its best load to one below it, as great as both allow; None if there is none.

    Each of its moves goes to a least place of its task, so best loads never grow along it. That makes it downhill:
    the start stays at its best load or above, the goal at its own or below. While a server is above its best load
    there is such a gift, as any best plan differs from this one by such moves alone.
    """
    now = plan.loads()
    fuller = [server for server in loads if now[server].compare(loads[server]) > 0]
    found = reached(fuller, givers(plan), places, None)
    emptier = [server for server in found if now[server].compare(loads[server]) < 0]
    if len(emptier) == 0:
        return None
    return gift_along(plan, chain_to(found, emptier[0]), loads)


def gift_along(plan, chain, loads):
    """The greatest gift along a chain that takes no server past its best load."""
    start = chain[0][1]
    goal = chain[-1][2]
    surplus = (plan.load(start) - loads[start]) * plan.yard.speed(start)
    need = (loads[goal] - plan.load(goal)) * plan.yard.speed(goal)
    amount = least_of([surplus, need] + [plan[task, server] for task, server, _ in chain])
    moves = [Move(task, server, further) for task, server, further in chain]
    return Gift(amount, *moves)


def givers(plan):
    """The dict from all servers to the tasks that give to them."""
    tasks = {server: [] for server in plan.yard.servers()}
    for task, server in plan.ties():
        tasks[server].append(task)
    return tasks
