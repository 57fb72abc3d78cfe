"""The levels of a yard with a best way to fill each: where best loads, best plans and spans come from."""

from evenloads.flows import Flow
from evenloads.ratios import common_bottom, sum_of, whole_parts


def leveled(yard):
    """The levels of a yard, the greatest load first: tuples (load, servers, tasks, flow).

    The flow has all works of the level's tasks at the level's servers, which are their least places.
    """
    found = []
    parts = [(yard.servers(), {task: yard.places(task) for task in yard.tasks()})]
    while len(parts) > 0:
        servers, places = parts.pop()
        load = sum_of([yard.work(task) for task in places]).over(yard.speed_of(servers))
        flow, left = even_flow(yard, places, {server: load for server in servers})
        if len(left) == 0:
            found.append((load, servers, list(places), flow))
        else:
            inner, outer = divided(servers, places, flow.closure(left))
            # The one that is popped first has the greater loads.
            parts.append(outer)
            parts.append(inner)
    return found


def even_flow(yard, places, bounds):
    """A flow that is filled as far as bounds of the loads allow, and the tasks of which something is left."""
    works = {task: yard.work(task) for task in places}
    rooms = {server: bounds[server] * yard.speed(server) for server in bounds}
    unit = common_bottom(list(works.values()) + list(rooms.values()))
    flow = Flow(places, {server: whole_parts(rooms[server], unit) for server in rooms}, unit)
    return flow, flow.fill({task: whole_parts(works[task], unit) for task in works})


def divided(servers, places, barring):
    """Two parts of servers and of tasks with their places: what must bear more than the others, and the rest.

    The work of a task that can go to the rest never goes to where the loads are greater.
    """
    inner = {}
    outer = {}
    for task in places:
        outside = [place for place in places[task] if place not in barring]
        if len(outside) == 0:
            inner[task] = places[task]
        else:
            outer[task] = outside
    return (barring, inner), ([server for server in servers if server not in barring], outer)
