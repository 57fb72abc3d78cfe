"""What all best plans of a yard have in common: how much each task may have at each place, and why."""

from evenloads.best import best_loads, lightest, plan_of
from evenloads.checks import check_server, check_servers, check_task, check_yard
from evenloads.errors import InvalidNumber, OutOfSpan, UnknownPlace
from evenloads.leveling import leveled
from evenloads.plans import places_of
from evenloads.ratios import Ratio, is_number, sum_of


def least_places(yard, task):
    """The sorted list of those places of a task whose best load is the least."""
    check_yard(yard)
    check_task(yard, task)
    return lightest(yard, task, best_loads(yard))


def span(yard, task, server):
    """The tuple of the least and the greatest amount that a task has at one of its places in a best plan."""
    check_task_at(yard, task, server)
    check_place(yard, task, server)
    least, _, greatest, _ = ends(yard, task, server)
    return least, greatest


def room(yard, servers):
    """The sum of speed times best load of a set of servers."""
    check_yard(yard)
    check_servers(yard, servers)
    return room_at(yard, servers, best_loads(yard))


def claim(yard, task, servers):
    """The sum of the works of all other tasks all of whose least places belong to a set of servers."""
    check_yard(yard)
    check_task(yard, task)
    check_servers(yard, servers)
    return claim_at(yard, task, servers, best_loads(yard))


def cap(yard, task, server, servers):
    """The room less the claim of a set of servers that caps a task at a server; None if it does not."""
    check_task_at(yard, task, server)
    check_servers(yard, servers)
    check_place(yard, task, server)
    loads = best_loads(yard)
    if server not in servers or all([place in servers for place in lightest(yard, task, loads)]):
        return None
    return room_at(yard, servers, loads) - claim_at(yard, task, servers, loads)


def lift(yard, task, server, servers):
    """The work and the claim less the room of a set of servers that lifts a task at a server; None if it does not."""
    check_task_at(yard, task, server)
    check_servers(yard, servers)
    check_place(yard, task, server)
    loads = best_loads(yard)
    others = [place for place in lightest(yard, task, loads) if place != server]
    if server in servers or not all([place in servers for place in others]):
        return None
    return yard.work(task) + claim_at(yard, task, servers, loads) - room_at(yard, servers, loads)


def capping_set(yard, task, server):
    """A set that caps a task at the greatest amount; None if the server is no least place or this is the work."""
    check_task_at(yard, task, server)
    check_place(yard, task, server)
    _, _, greatest, capping = ends(yard, task, server)
    return None if greatest == yard.work(task) else capping


def lifting_set(yard, task, server):
    """A set that lifts a task to the least amount; None if this is 0."""
    check_task_at(yard, task, server)
    check_place(yard, task, server)
    least, lifting, _, _ = ends(yard, task, server)
    return None if least.top == 0 else lifting


def sure_places(yard):
    """The sorted list of the tuples (task, server) at which each best plan has more than 0."""
    check_yard(yard)
    flows = flows_of(yard, leveled(yard))
    found = []
    for task, server in places_of(yard):
        if (task, server) in flows:
            flow = flows[task, server]
            flow.drive_out(task, server)
            if flow.amount_at(task, server).top > 0:
                found.append((task, server))
    return found


def spare_places(yard):
    """The sorted list of the tuples (task, server) at which no best plan has more than 0."""
    check_yard(yard)
    flows = flows_of(yard, leveled(yard))
    found = []
    for task, server in places_of(yard):
        if (task, server) in flows:
            flow = flows[task, server]
            flow.draw_in(task, server)
            if flow.amount_at(task, server).top > 0:
                continue
        found.append((task, server))
    return found


def plan_giving(yard, task, server, amount):
    """A best plan in which a task has this amount at one of its places; OutOfSpan if there is none."""
    check_task_at(yard, task, server)
    if not is_number(amount):
        raise InvalidNumber(amount)
    check_place(yard, task, server)
    found = leveled(yard)
    flows = flows_of(yard, found)
    low = high = plan_of(yard, found)
    if (task, server) in flows:
        flows[task, server].drive_out(task, server)
        low = plan_of(yard, found)
        flows[task, server].draw_in(task, server)
        high = plan_of(yard, found)
    least = low[task, server]
    greatest = high[task, server]
    if least.compare(amount) > 0 or greatest.compare(amount) < 0:
        raise OutOfSpan(amount)
    if least == greatest:
        return low
    return high.mix(low, (amount - least).over(greatest - least))


def ends(yard, task, server):
    """The least amount, the set that lifts the task to it, the greatest amount, and the set that caps it.

    The sets tell something only where the amounts are above 0 and less than the work.
    """
    flows = flows_of(yard, leveled(yard))
    if (task, server) not in flows:
        return Ratio(0), None, Ratio(0), None
    flow = flows[task, server]
    lifting = flow.drive_out(task, server)
    least = flow.amount_at(task, server)
    capping = flow.draw_in(task, server)
    return least, lifting, flow.amount_at(task, server), capping


def flows_of(yard, found):
    """The dict from tuples of a task and one of its least places to the flow of the level to which both belong."""
    flows = {}
    for _, servers, tasks, flow in found:
        for task in tasks:
            for place in yard.places(task):
                if place in servers:
                    flows[task, place] = flow
    return flows


def room_at(yard, servers, loads):
    """The room of a set of servers at these best loads."""
    return sum_of([loads[server] * yard.speed(server) for server in servers])


def claim_at(yard, task, servers, loads):
    """The claim of a set of servers with regard to a task at these best loads."""
    others = [other for other in yard.tasks() if other != task]
    return sum_of([yard.work(other) for other in others
                   if all([place in servers for place in lightest(yard, other, loads)])])


def check_task_at(yard, task, server):
    """Raise the error that is due if these are no yard with a task and a server."""
    check_yard(yard)
    check_task(yard, task)
    check_server(yard, server)


def check_place(yard, task, server):
    """Raise UnknownPlace if a server is no place of a task."""
    if server not in yard.places(task):
        raise UnknownPlace((task, server))
