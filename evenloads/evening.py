"""The best assignments of whole jobs, and the ways that lead there."""

from evenloads.basics import is_integer
from evenloads.checks import check_yard
from evenloads.flows import chain_to, reached, shift
from evenloads.jobs import Assignment, check_assignment, check_whole
from evenloads.moves import Move
from evenloads.nearest import nearest_held
from evenloads.plans import places_of


def best_assignment(yard):
    """A best assignment."""
    check_yard(yard)
    check_whole(yard)
    return Assignment(yard, spots_of(best_held(yard)))


def best_counts(yard):
    """The ascending list of the counts of the best assignments."""
    check_yard(yard)
    check_whole(yard)
    return sorted_counts(best_held(yard))


def is_even(assignment):
    """Whether an assignment is best."""
    return steep_way(assignment) is None


def steep_way(assignment):
    """A steep way, a list of Moves; None if there is none."""
    check_assignment(assignment)
    chain = steep_chain(held_by(assignment), places_in(assignment.yard))
    return None if chain is None else moves_of(chain)


def ways_to_best(assignment):
    """Yield ways that lead an assignment to a best one, each steep when its turn comes."""
    check_assignment(assignment)
    held = held_by(assignment)
    places = places_in(assignment.yard)
    chain = steep_chain(held, places)
    while chain is not None:
        shift(chain, 1, held)
        yield moves_of(chain)
        chain = steep_chain(held, places)


def heights(assignment):
    """The dict of the least heights of an assignment; None if it has none."""
    check_assignment(assignment)
    counts = assignment.counts()
    found = dict(counts)
    held = held_by(assignment)
    places = places_in(assignment.yard)
    for start in counts:
        for goal in reached([start], held, places):
            if found[goal] < counts[start]:
                found[goal] = counts[start]
    return found if is_heights(assignment, found) else None


def is_heights(assignment, value):
    """Whether any value is a dict from all servers to heights of an assignment."""
    check_assignment(assignment)
    counts = assignment.counts()
    if not isinstance(value, dict) or len(value) != len(counts):
        return False
    if not all([server in value and is_integer(value[server]) for server in counts]):
        return False
    if not all([0 <= value[server] - counts[server] <= 1 for server in counts]):
        return False
    return all([value[step.goal] >= value[step.start] for step in assignment.steps()])


def possible_places(yard):
    """The sorted list of the tuples (job, server) of places where jobs are in some best assignments."""
    check_yard(yard)
    check_whole(yard)
    held = best_held(yard)
    places = places_in(yard)
    return [(job, server) for job, server in places_of(yard) if is_possible_at(job, server, held, places)]


def certain_places(yard):
    """The sorted list of the tuples (job, server) of places where jobs are in all best assignments."""
    possible = possible_places(yard)
    jobs = [job for job, _ in possible]
    return [(job, server) for job, server in possible if jobs.count(job) == 1]


def distance(assignment):
    """The least number of jobs that are elsewhere in a best assignment."""
    best = nearest_best(assignment)
    return len([job for job in assignment.yard.tasks() if assignment[job] != best[job]])


def nearest_best(assignment):
    """A best assignment with just so many jobs elsewhere."""
    check_assignment(assignment)
    held = nearest_held(assignment.yard.servers(), assignment.spots(), places_in(assignment.yard))
    return Assignment(assignment.yard, spots_of(held))


def best_held(yard):
    """The jobs that each server holds in a best assignment."""
    places = places_in(yard)
    held = {server: {} for server in yard.servers()}
    for job in places:
        held[places[job][0]][job] = 1
    even_out(held, places)
    return held


def even_out(held, places):
    """Take steep ways as long as there are any."""
    chain = steep_chain(held, places)
    while chain is not None:
        shift(chain, 1, held)
        chain = steep_chain(held, places)


def steep_chain(held, places):
    """A shortest chain to a server with at least two jobs less, a list of tuples (job, start, goal); None if none."""
    for start in held:
        emptier = [server for server in held if len(held[server]) <= len(held[start]) - 2]
        found = reached([start], held, places, None, emptier)
        for server in emptier:
            if server in found:
                return chain_to(found, server)
    return None


def is_possible_at(job, server, held, places):
    """Whether a job is at one of its places in some best assignment, when these are the jobs held in another one."""
    moved = {other: {one: 1 for one in held[other] if one != job} for other in held}
    moved[server][job] = 1
    # The best of those in which the job stays here.
    even_out(moved, {**places, job: [server]})
    return sorted_counts(moved) == sorted_counts(held)


def sorted_counts(held):
    """The ascending list of how many jobs each server holds."""
    return sorted([len(jobs) for jobs in held.values()])


def held_by(assignment):
    """The dict from all servers to the jobs that they hold in an assignment, each with the amount 1."""
    return {server: {job: 1 for job in assignment.jobs_at(server)} for server in assignment.yard.servers()}


def places_in(yard):
    """The dict from all jobs of a yard to their places."""
    return {job: yard.places(job) for job in yard.tasks()}


def spots_of(held):
    """The dict from all jobs to where they are held."""
    return {job: server for server in held for job in held[server]}


def moves_of(chain):
    """The list of the Moves of a chain."""
    return [Move(job, start, goal) for job, start, goal in chain]
