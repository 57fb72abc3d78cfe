"""The levels of a yard with a best way to fill each: where best loads, best plans and spans come from."""

from evenloads.flows import Flow
from evenloads.ratios import Ratio, all_whole_parts, common_bottom, whole_parts


def leveled(yard):
    """The levels of a yard, the greatest load first: tuples (load, servers, tasks, flow).

    The flow has all works of the level's tasks at the level's servers, which are their least places.
    """
    ratios = {task: yard.work(task) for task in yard.tasks()}
    bottom = common_bottom(list(ratios.values()))
    works = all_whole_parts(ratios, bottom)
    found = []
    parts = [(yard.servers(), {task: yard.places(task) for task in works})]
    while len(parts) > 0:
        servers, places = parts.pop()
        work = sum([works[task] for task in places])
        speed = yard.speed_of(servers)
        # In parts as small as these the same load everywhere is whole, too.
        flow = Flow(places, {server: work * yard.speed(server) for server in servers}, bottom * speed)
        left = flow.fill({task: works[task] * speed for task in places})
        if len(left) == 0:
            found.append((Ratio(work, bottom * speed), servers, list(places), flow))
        else:
            inner, outer = divided(servers, places, flow.closure(left))
            # The one that is popped first has the greater loads.
            parts.append(outer)
            parts.append(inner)
    return found


def even_flow(yard, places, bounds):
    """A flow that is filled as far as bounds of the loads allow, and the tasks of which something is left."""
    works = {task: yard.work(task) for task in places}
    rooms = {server: bounds[server] * yard.speed(server) for server in bounds}
    unit = common_bottom(list(works.values()) + list(rooms.values()))
    flow = Flow(places, {server: whole_parts(rooms[server], unit) for server in rooms}, unit)
    return flow, flow.fill({task: whole_parts(works[task], unit) for task in works})


def divided(servers, places, barring):
    """Two parts of servers and of tasks with their places: what must bear more than the others, and the rest.

    The work of a task that can go to the rest never goes to where the loads are greater.
    """
    inner = {}
    outer = {}
    for task in places:
        outside = [place for place in places[task] if place not in barring]
        if len(outside) == 0:
            inner[task] = places[task]
        else:
            outer[task] = outside
    return (barring, inner), ([server for server in servers if server not in barring], outer)
