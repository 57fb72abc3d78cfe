"""What the document says, worked out once more by plain searches, and yards and plans that are drawn."""

import itertools
import time
from fractions import Fraction

from evenloads.plans import Plan
from evenloads.ratios import Ratio
from evenloads.yards import Yard
from helpers import names


def exact(number):
    """The Fraction of a NUMBER."""
    return Fraction(number) if isinstance(number, int) else Fraction(number.top, number.bottom)


def ratio(fraction):
    """The Ratio of a Fraction."""
    return Ratio(fraction.numerator, fraction.denominator)


def subsets(servers, least=1):
    """All sets of servers as sorted lists, those with the fewest ones first."""
    for many in range(least, len(servers) + 1):
        for chosen in itertools.combinations(servers, many):
            yield list(chosen)


def drawn_work(chance):
    """A work: an integer, often 0, or a fraction."""
    return chance.choice([0, chance.randint(1, 9), chance.randint(1, 9), chance.randint(1, 60),
                          Ratio(chance.randint(0, 30), chance.randint(1, 12))])


def drawn_yard(chance, servers=5, tasks=6, speed=4):
    """A yard with at most these many servers and tasks."""
    chosen = names("s", chance.randint(1, servers))
    speeds = {server: chance.randint(1, speed) for server in chosen}
    return Yard(speeds, {task: (drawn_work(chance), chance.sample(chosen, chance.randint(1, len(chosen))))
                         for task in names("t", chance.randint(0, tasks))})


def even_yard(chance):
    """A yard whose best loads are mostly equal: works and places are those of a plan with equal loads."""
    servers = names("s", chance.randint(2, 5))
    tasks, works, places = names("t", chance.randint(2, 6)), {}, {}
    for server in servers:
        shares = chance.sample(tasks, chance.randint(1, min(3, len(tasks))))
        for task in shares:
            works[task] = works.get(task, Ratio(0)) + Ratio(6, len(shares))
            places.setdefault(task, []).append(server)
    for task in list(works):
        if chance.random() < 0.3:
            places[task] = sorted({*places[task], chance.choice(servers)})
    return Yard({server: 1 for server in servers}, {task: (works[task], places[task]) for task in works})


def drawn_plan(yard, chance):
    """A plan whose tasks divide their works at random, often without some places."""
    amounts = {}
    for task in yard.tasks():
        places = yard.places(task)
        parts = {place: chance.choice([0, 0, 1, 1, 2, 3, chance.randint(1, 50)]) for place in places}
        if not any(parts.values()):
            parts[chance.choice(places)] = 1
        for place in places:
            amounts[task, place] = ratio(exact(yard.work(task)) * parts[place] / sum(parts.values()))
    return Plan(yard, amounts)


def great_yard(chance, most_places, work):
    """Twelve servers and 24 tasks with up to so many places each, whose works are drawn by a function."""
    servers = names("s", 12)
    speeds = {server: chance.randint(1, 1000) for server in servers}
    return Yard(speeds, {task: (work(), chance.sample(servers, chance.randint(1, most_places)))
                         for task in names("t", 24)})


def great_yards(chance):
    """Yards at the limits, with works of thirty digits of several kinds."""
    def whole():
        return chance.randint(10 ** 29, 10 ** 30 - 1)

    def equal():
        return 10 ** 30 - 1

    def divided():
        return Ratio(whole(), whole())

    def of_any_size():
        return Ratio(chance.randint(0, 10 ** chance.randint(0, 30) - 1), whole())

    return [great_yard(chance, most, work) for work in (whole, equal, divided, of_any_size) for most in (12, 3)]


def in_time(case, call, /, *args, **named):
    """What a call returns, which must not take longer than a few seconds."""
    begun = time.perf_counter()
    found = call(*args, **named)
    case.assertLess(time.perf_counter() - begun, 8, call)
    return found


def drawn_jobs(chance, servers=4, jobs=5):
    """A whole yard with at most these many servers and jobs."""
    chosen = names("s", chance.randint(1, servers))
    return Yard.jobs(chosen, **{job: chance.sample(chosen, chance.randint(1, len(chosen)))
                                for job in names("j", chance.randint(0, jobs))})


def great_jobs(chance):
    """Whole yards at the limits: twelve servers and 24 jobs with many or few places."""
    chosen = names("s", 12)
    return [Yard.jobs(chosen, **{job: chance.sample(chosen, chance.randint(1, most)) for job in names("j", 24)})
            for most in (12, 12, 4, 4, 2, 2)]


def all_spots(yard):
    """All dicts that put each job of a yard at one of its places."""
    jobs = yard.tasks()
    for spots in itertools.product(*[yard.places(job) for job in jobs]):
        yield dict(zip(jobs, spots))


def drawn_spots(yard, chance):
    """One of them, drawn; often with many jobs at few servers."""
    first = chance.random() < 0.4
    return {job: yard.places(job)[0] if first else chance.choice(yard.places(job)) for job in yard.tasks()}


def weight(yard, servers):
    """The sum of the works of the tasks all of whose places are in a set."""
    return sum([exact(yard.work(task)) for task in yard.tasks() if set(yard.places(task)) <= set(servers)],
               Fraction(0))


def room_within(yard, servers, bounds):
    """The sum of speeds times bounds, a dict, of a set."""
    return sum([yard.speed(server) * exact(bounds[server]) for server in servers], Fraction(0))


def bars(yard, bounds):
    """All bars for a dict of bounds."""
    return [chosen for chosen in subsets(yard.servers())
            if weight(yard, chosen) > room_within(yard, chosen, bounds)]


def searched_levels(yard):
    """The levels by a search through all sets: the greatest set of the greatest density, then that of the rest."""
    found, servers = [], yard.servers()
    places = {task: yard.places(task) for task in yard.tasks()}
    while servers:
        greatest, members = Fraction(-1), []
        for chosen in subsets(servers):
            works = [exact(yard.work(task)) for task in places if set(places[task]) <= set(chosen)]
            density = sum(works, Fraction(0)) / sum(yard.speed(server) for server in chosen)
            if density > greatest:
                greatest, members = density, chosen
            elif density == greatest:
                members = sorted({*members, *chosen})
        tasks = [task for task in places if set(places[task]) <= set(members)]
        found.append((greatest, members, tasks))
        servers = [server for server in servers if server not in members]
        places = {task: [place for place in places[task] if place not in members]
                  for task in places if task not in tasks}
    return found


def searched_loads(yard):
    """The dict of the best loads, as Fractions, by a search through all sets."""
    return {server: load for load, servers, _ in searched_levels(yard) for server in servers}


def loads_of(plan):
    """The dict of the loads of a plan, as Fractions, worked out from its amounts."""
    sums = {server: Fraction(0) for server in plan.yard.servers()}
    for (_, server), amount in plan.amounts().items():
        sums[server] = sums[server] + exact(amount)
    return {server: sums[server] / plan.yard.speed(server) for server in sums}


def greatest_parts(plan):
    """Points (speed, work): the most work that lies on any part of the servers with this speed in all."""
    points, speed, work = [(Fraction(0), Fraction(0))], Fraction(0), Fraction(0)
    loads = loads_of(plan)
    for server in sorted(loads, key=lambda server: -loads[server]):
        speed = speed + plan.yard.speed(server)
        work = work + loads[server] * plan.yard.speed(server)
        points.append((speed, work))
    return points


def work_at(points, speed):
    """The height over a speed of the line that goes straight from point to point."""
    for (left, low), (right, high) in zip(points, points[1:]):
        if left <= speed <= right:
            return low + (high - low) * (speed - left) / (right - left)
    raise ValueError(speed)


def is_never_dearer(plan, other):
    """Whether no part of the servers bears more in a plan than the same part of speed can bear in another one."""
    one, two = greatest_parts(plan), greatest_parts(other)
    return all(work_at(one, speed) <= work_at(two, speed) for speed, _ in one + two)


def searched_room(yard, servers, loads):
    """The sum of speed times best load of a set."""
    return room_within(yard, servers, {server: ratio(loads[server]) for server in loads})


def searched_least_places(yard, task, loads):
    """The places of a task with the least best load."""
    return [place for place in yard.places(task) if loads[place] == min(loads[one] for one in yard.places(task))]


def searched_claim(yard, task, servers, loads):
    """The sum of the works of all other tasks all of whose least places are in a set."""
    return sum([exact(yard.work(other)) for other in yard.tasks()
                if other != task and set(searched_least_places(yard, other, loads)) <= set(servers)], Fraction(0))


def searched_cap(yard, task, server, servers, loads):
    """The room less the claim if a set caps a task at a server, otherwise None."""
    if server not in servers or set(searched_least_places(yard, task, loads)) <= set(servers):
        return None
    return searched_room(yard, servers, loads) - searched_claim(yard, task, servers, loads)


def searched_lift(yard, task, server, servers, loads):
    """The work and the claim less the room if a set lifts a task at a server, otherwise None."""
    others = set(searched_least_places(yard, task, loads)) - {server}
    if server in servers or not others <= set(servers):
        return None
    claim = searched_claim(yard, task, servers, loads)
    return exact(yard.work(task)) + claim - searched_room(yard, servers, loads)


def searched_span(yard, task, server, loads):
    """The span of a task at one of its places by a search through all sets."""
    if server not in searched_least_places(yard, task, loads):
        return Fraction(0), Fraction(0)
    least, greatest = Fraction(0), exact(yard.work(task))
    for chosen in subsets(yard.servers(), least=0):
        cap = searched_cap(yard, task, server, chosen, loads)
        lift = searched_lift(yard, task, server, chosen, loads)
        greatest = greatest if cap is None else min(greatest, cap)
        least = least if lift is None else max(least, lift)
    return least, greatest
