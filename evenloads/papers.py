"""Papers of claims, each a value that can be followed to see that the claim is true."""

from evenloads.best import best_loads, is_best
from evenloads.bounds import bar, least_top, plan_within, top_set
from evenloads.costs import Cost
from evenloads.evening import heights, steep_way
from evenloads.gifts import gifts_to_best
from evenloads.ratios import Ratio
from evenloads.spans import capping_set, least_places, lifting_set, span


def paper_of(word, parts):
    """A paper of the claim that a word and its parts make up; None also if it is not true."""
    find = FINDERS[word]
    return find(*parts)


def fits_paper(yard, bounds):
    """The amounts of a plan within bounds."""
    plan = plan_within(yard, bounds)
    return None if plan is None else plan.amounts()


def barred_paper(yard, bounds):
    """A bar."""
    return bar(yard, bounds)


def best_paper(plan):
    """The best loads, if a plan has them."""
    return best_loads(plan.yard) if is_best(plan) else None


def beaten_paper(plan):
    """Gifts that lead a plan to a best one, if it is none."""
    return None if is_best(plan) else list(gifts_to_best(plan))


def dearer_paper(plan, other):
    """A cost for which the first plan's cost is greater."""
    load = plan.parting(other)
    return None if load is None else Cost.hinge(load)


def top_paper(yard, number):
    """The amounts of a plan with no load above a number, and a set of this density."""
    if least_top(yard) != Ratio.of(number):
        return None
    return plan_within(yard, number).amounts(), top_set(yard)


def atmost_paper(yard, task, server, number):
    """A set that caps a task at no more than a number, where one is needed."""
    _, greatest = span(yard, task, server)
    if needs_no_cap(yard, task, server, number) or greatest.compare(number) > 0:
        return None
    return capping_set(yard, task, server)


def atleast_paper(yard, task, server, number):
    """A set that lifts a task to at least a number, where one is needed."""
    least, _ = span(yard, task, server)
    if needs_no_lift(number) or least.compare(number) < 0:
        return None
    return lifting_set(yard, task, server)


def even_paper(assignment):
    """Heights of an assignment."""
    return heights(assignment)


def uneven_paper(assignment):
    """A steep way of an assignment."""
    return steep_way(assignment)


def needs_no_cap(yard, task, server, number):
    """Whether it is plain that no best plan gives a task more at a server."""
    return server not in least_places(yard, task) or yard.work(task).compare(number) <= 0


def needs_no_lift(number):
    """Whether it is plain that no best plan gives a task less."""
    return Ratio.of(number).top == 0


FINDERS = {
    "fits": fits_paper,
    "barred": barred_paper,
    "best": best_paper,
    "beaten": beaten_paper,
    "dearer": dearer_paper,
    "top": top_paper,
    "atmost": atmost_paper,
    "atleast": atleast_paper,
    "even": even_paper,
    "uneven": uneven_paper,
}
