"""Papers of claims checked by the words of the document, and claims and changed papers that are drawn."""

from fractions import Fraction

from evenloads.best import best_plan
from evenloads.costs import Cost
from evenloads.evening import best_assignment
from evenloads.gifts import gifts_to_best
from evenloads.jobs import Assignment
from evenloads.moves import Gift, Move
from evenloads.plans import Plan
from evenloads.ratios import Ratio
from oracles import all_spots, bars, drawn_jobs, drawn_plan, drawn_spots, drawn_yard, even_yard, exact, is_never_dearer
from oracles import loads_of, ratio, room_within, searched_cap, searched_least_places, searched_levels, searched_lift
from oracles import searched_loads, searched_span, weight


def is_amount(value):
    return (value.__class__ is int or value.__class__ is Ratio) and exact(value) >= 0


def is_set(yard, value):
    """Whether a value is a list of different servers of a yard, perhaps empty."""
    if not isinstance(value, (list, tuple)) or not all(one.__class__ is str for one in value):
        return False
    return len(set(value)) == len(value) and set(value) <= set(yard.servers())


def loads_from(yard, value):
    """The loads that a dict of amounts makes, as Fractions; None if it makes no plan."""
    if not isinstance(value, dict):
        return None
    places = [(task, place) for task in yard.tasks() for place in yard.places(task)]
    if not all(key in places and is_amount(value[key]) for key in value):
        return None
    for task in yard.tasks():
        if sum((exact(value[key]) for key in value if key[0] == task), Fraction(0)) != exact(yard.work(task)):
            return None
    return {server: sum((exact(value[key]) for key in value if key[1] == server), Fraction(0)) / yard.speed(server)
            for server in yard.servers()}


def bounds_in(yard, bounds):
    """The dict of bounds, as Ratios."""
    return {server: Ratio.of(bounds[server] if isinstance(bounds, dict) else bounds) for server in yard.servers()}


def cost_for(cost, plan):
    """The cost of a plan, worked out with Fractions."""
    lines = [(exact(slope), exact(height)) for slope, height in cost.lines()]
    return sum(plan.yard.speed(server) * max(slope * load + height for slope, height in lines)
               for server, load in loads_of(plan).items())


def leads(plan, value):
    """Whether gifts lead a plan that is not best to a best one, one after another."""
    if not isinstance(value, (list, tuple)) or len(value) == 0:
        return False
    current = plan
    for gift in value:
        if gift.__class__ is not Gift or not current.is_downhill(gift):
            return False
        current = current >> gift
    return loads_of(current) == searched_loads(plan.yard)


def is_steep(assignment, value):
    """Whether a value is a list of Moves that is a steep way."""
    if not isinstance(value, (list, tuple)) or len(value) == 0 or not all(one.__class__ is Move for one in value):
        return False
    spots, counts = assignment.spots(), assignment.counts()
    servers = [value[0].start] + [move.goal for move in value]
    for at, move in enumerate(value):
        if spots.get(move.task) != move.start or move.goal not in assignment.yard.places(move.task):
            return False
        if move.start != servers[at]:
            return False
    return len(set(servers)) == len(servers) and counts[servers[0]] >= counts[servers[-1]] + 2


def has_heights(assignment, value):
    """Whether a value is a dict of heights."""
    counts = assignment.counts()
    if not isinstance(value, dict) or sorted(value, key=str) != list(counts):
        return False
    if not all(value[server].__class__ is int and value[server] - counts[server] in (0, 1) for server in counts):
        return False
    return all(value[place] >= value[assignment[job]] for job in assignment.yard.tasks()
               for place in assignment.yard.places(job))


def is_true(claim):
    """Whether a claim is true, by searches."""
    word = claim[0]
    if word in ("fits", "barred"):
        return (word == "barred") == (bars(claim[1], bounds_in(*claim[1:])) != [])
    if word in ("best", "beaten"):
        return (word == "best") == (loads_of(claim[1]) == searched_loads(claim[1].yard))
    if word == "dearer":
        return not is_never_dearer(claim[1], claim[2])
    if word == "top":
        return searched_levels(claim[1])[0][0] == exact(claim[2])
    if word in ("atmost", "atleast"):
        _, yard, task, server, number = claim
        least, greatest = searched_span(yard, task, server, searched_loads(yard))
        return greatest <= exact(number) if word == "atmost" else least >= exact(number)
    squares = [sum(list(spots.values()).count(server) ** 2 for server in claim[1].yard.servers())
               for spots in all_spots(claim[1].yard)]
    return (word == "even") == (sum(count ** 2 for count in claim[1].counts().values()) == min(squares))


def is_paper(claim, value):
    """Whether a value is a paper of a claim, by the words of the document."""
    word, about = claim[0], claim[1]
    if word == "fits":
        loads, bounds = loads_from(about, value), bounds_in(*claim[1:])
        return loads is not None and all(loads[server] <= exact(bounds[server]) for server in loads)
    if word == "barred":
        return is_set(about, value) and len(value) > 0 and weight(about, value) > room_within(
            about, value, bounds_in(*claim[1:]))
    if word == "best":
        loads = searched_loads(about.yard)
        return (loads == loads_of(about) and isinstance(value, dict) and sorted(value, key=str) == sorted(loads)
                and all(value[server].__class__ in (int, Ratio) and exact(value[server]) == loads[server]
                        for server in loads))
    if word == "beaten":
        return leads(about, value)
    if word == "dearer":
        return value.__class__ is Cost and cost_for(value, about) > cost_for(value, claim[2])
    if word == "top":
        if not isinstance(value, tuple) or len(value) != 2 or not is_set(about, value[1]) or len(value[1]) == 0:
            return False
        loads = loads_from(about, value[0])
        return (loads is not None and max(loads.values()) <= exact(claim[2])
                and weight(about, value[1]) == exact(claim[2]) * sum(about.speed(server) for server in value[1]))
    if word == "even":
        return has_heights(about, value)
    return is_steep(about, value) if word == "uneven" else is_span_paper(*claim, value)


def is_span_paper(word, yard, task, server, number, value):
    """Whether a value is a paper of a claim about a span."""
    loads = searched_loads(yard)
    if word == "atmost":
        if server not in searched_least_places(yard, task, loads) or exact(yard.work(task)) <= exact(number):
            return value is None
        cap = searched_cap(yard, task, server, value, loads) if is_set(yard, value) else None
        return cap is not None and cap <= exact(number)
    if exact(number) == 0:
        return value is None
    lift = searched_lift(yard, task, server, value, loads) if is_set(yard, value) else None
    return lift is not None and lift >= exact(number)


def drawn_claims(chance):
    """Claims about yards, plans and assignments that are drawn, often just true or just false."""
    yard = chance.choice([drawn_yard, even_yard])(chance)
    plans = [drawn_plan(yard, chance), best_plan(yard), Plan.first(yard), drawn_plan(yard, chance)]
    top = searched_levels(yard)[0][0]
    bit = Fraction(1, 10 ** 20)
    dicts = [{server: ratio(load + chance.choice([0, 0, 1, bit])) for server, load in loads_of(plan).items()}
             for plan in plans]
    claims = [(word, yard, bounds) for word in ("fits", "barred")
              for bounds in dicts + [ratio(top), ratio(max(top - bit, Fraction(0))), ratio(top + 1), 0, 3]]
    claims.extend((word, plan) for word in ("best", "beaten") for plan in plans)
    claims.extend(("dearer", one, other) for one in plans for other in plans)
    claims.extend(("top", yard, number) for number in (ratio(top), ratio(top + bit), ratio(top - bit), -1, top.numerator))
    for task in yard.tasks()[:3]:
        for server in yard.places(task)[:3]:
            least, greatest = searched_span(yard, task, server, searched_loads(yard))
            numbers = {Fraction(0), exact(yard.work(task)), least, greatest, greatest + bit}
            numbers.update(number for number in (least + bit, greatest - bit, least - bit) if number >= 0)
            claims.extend((word, yard, task, server, ratio(number)) for word in ("atmost", "atleast")
                          for number in sorted(numbers))
    jobs = drawn_jobs(chance)
    for assignment in (best_assignment(jobs), Assignment(jobs, drawn_spots(jobs, chance))):
        claims.extend([("even", assignment), ("uneven", assignment)])
    return claims


def changed_number(number):
    """Values near a number, and the number as one of another kind."""
    found = [None, str(number), number + 1, number - 1, number + Ratio(1, 10 ** 29), Ratio.of(number), True, False]
    return found + ([number.top] if number.__class__ is Ratio and number.bottom == 1 else [])


def changed(paper):
    """Values that are like a paper, with something otherwise; some of them are still papers."""
    if isinstance(paper, dict):
        yield from ({key: paper[key] for key in paper if key != away} for away in paper)
        yield from ({**paper, key: value} for key in paper for value in changed_number(paper[key]))
        yield from ({**paper, key: 0} for key in ["q", None, ("x", "q"), ("ta", "sa"), ("tb", "sb"), ("tz", "sa"), "sa", 1])
        yield from ([], list(paper), list(paper.items()), {key: paper[key] for key in reversed(paper)})
        keys = list(paper)
        for one, other in zip(keys, keys[1:]):
            yield {**paper, one: paper[other], other: paper[one]}
    elif isinstance(paper, Cost):
        for bound in (0, 1, Ratio(7, 3), 10 ** 9):
            yield from (Cost.hinge(bound), paper + Cost.hinge(bound))
        yield from (paper.lines(), Cost((1, 0)), Cost((-1, 0)), Cost((0, 0), (-1, 5)), tuple(paper.lines()))
    elif isinstance(paper, tuple):
        yield from ((one, paper[1]) for one in changed(paper[0]))
        yield from ((paper[0], other) for other in changed(paper[1]))
        yield from (list(paper), paper[::-1], paper[:1], (*paper, None), paper + paper)
    elif isinstance(paper, list):
        yield from (paper[:at] + paper[at + 1:] for at in range(len(paper)))
        yield from (paper[:at] + [paper[at]] + paper[at:] for at in range(len(paper)))
        yield from (paper[:at] + [other] + paper[at + 1:] for at in range(len(paper))
                    for other in [None, "q", "sa", "sb", 1, [], *changed_item(paper[at])])
        yield from (paper + ["sa"], paper + ["q"], paper[::-1], tuple(paper), dict.fromkeys(map(str, paper), 1), [])


def changed_item(item):
    """What may stand in place of an item of a list."""
    if isinstance(item, Move):
        return [-item, Move(item.task, item.start, "q"), Move("q", item.start, item.goal), str(item)]
    if isinstance(item, Gift):
        return [-item, Gift(item.amount + Ratio(1, 10 ** 29), *item.moves()), Gift(item.amount.over(2), *item.moves()),
                item.moves()[0], Gift(item.amount, Move("q", item.start, item.goal))]
    return [[item], item + "a"]


def gifts_beside(plan):
    """Gifts that lead a plan to a best one, in two parts each."""
    halves = [Gift(gift.amount.over(2), *gift.moves()) for gift in gifts_to_best(plan)]
    return [half for half in halves for _ in range(2)]
