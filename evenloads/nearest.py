"""The best assignment that differs least from a given one."""

from evenloads.basics import least_count
from evenloads.flows import chain_to, shift


def nearest_held(servers, spots, places):
    """The jobs that each server holds in a best assignment with as many jobs as possible at their spots.

    Jobs are put one after another, each at the least cost, so that the sum of the costs stays the least one. A job
    elsewhere than at its spot costs 1; a job more at a server costs much, and the more the more jobs are there.
    """
    held = {server: {} for server in servers}
    # All jobs elsewhere cost less than the least difference that counts can make.
    much = len(spots) + 1
    for job in spots:
        costs, last = chains_from(job, held, spots, places)
        totals = {server: costs[server] + much * (2 * len(held[server]) + 1) for server in costs}
        least = least_count(list(totals.values()))
        goal = [server for server in totals if totals[server] == least][0]
        chain = chain_to(last, goal)
        shift(chain, 1, held)
        server = chain[0][1] if len(chain) > 0 else goal
        held[server][job] = 1
    return held


def chains_from(job, held, spots, places):
    """How cheaply a job that is put can bring one job more to which server, as others go on to make room.

    Return the dict of the costs of where jobs are then, ahead of what the greater count costs, and the dict of the last
    moves of these chains, tuples (job, start), or None where the job itself is put there.
    """
    costs = {place: cost_at(job, place, spots) for place in places[job]}
    last = {place: None for place in places[job]}
    queue = list(costs)
    at = 0
    while at < len(queue):
        start = queue[at]
        at = at + 1
        for other in held[start]:
            for goal in places[other]:
                cost = costs[start] - cost_at(other, start, spots) + cost_at(other, goal, spots)
                # No chain back to where it began is ever cheaper, so this comes to an end.
                if goal not in costs or cost < costs[goal]:
                    costs[goal] = cost
                    last[goal] = (other, start)
                    queue.append(goal)
    return costs, last


def cost_at(job, server, spots):
    """What it costs that a job is at a server."""
    return 0 if spots[job] == server else 1
