"""A judge of claims, who follows their papers and needs no search."""

from evenloads.best import is_best
from evenloads.bounds import is_bar, is_within
from evenloads.checks import is_server_set
from evenloads.claims import is_claimed
from evenloads.costs import Cost
from evenloads.errors import InvalidAmounts, InvalidClaim, WrongSum
from evenloads.evening import is_heights
from evenloads.gifts import is_leading
from evenloads.papers import needs_no_cap, needs_no_lift, paper_of
from evenloads.plans import Plan
from evenloads.ratios import Ratio, is_number
from evenloads.spans import cap, lift


def is_claim(value):
    """Whether any value is a claim."""
    if not isinstance(value, tuple) or len(value) == 0 or not isinstance(value[0], str):
        return False
    return is_claimed(value[0], value[1:])


def certificate_of(claim):
    """A paper of a claim; None also if the claim is not true."""
    check_claim(claim)
    return paper_of(claim[0], claim[1:])


def is_certificate(claim, value):
    """Whether a claim is true and any value is a paper of it."""
    check_claim(claim)
    parts = claim[1:]
    is_paper = JUDGES[claim[0]]
    return is_paper(value, *parts)


def check_claim(claim):
    """Raise InvalidClaim for any value that is no claim."""
    if not is_claim(claim):
        raise InvalidClaim(claim)


def shows_fits(value, yard, bounds):
    """Whether any value is the dict of the amounts of a plan within bounds."""
    plan = plan_from(yard, value)
    return plan is not None and is_within(plan, bounds)


def shows_barred(value, yard, bounds):
    """Whether any value is a bar."""
    return is_bar(yard, bounds, value)


def shows_best(value, plan):
    """Whether any value is the dict of the best loads, and a plan has them."""
    loads = plan.loads()
    if not is_best(plan) or not isinstance(value, dict) or len(value) != len(loads):
        return False
    return all([server in value and is_number(value[server]) and loads[server].compare(value[server]) == 0
                for server in loads])


def shows_beaten(value, plan):
    """Whether a plan is not best, and any value is a list of gifts that leads it to a best one."""
    return not is_best(plan) and is_leading(plan, value)


def shows_dearer(value, plan, other):
    """Whether any value is a Cost for which the first plan's cost is greater."""
    return isinstance(value, Cost) and value.of_plan(plan).compare(value.of_plan(other)) > 0


def shows_top(value, yard, number):
    """Whether any value is a tuple of the amounts of a plan without a greater load and of a set of this density."""
    if not isinstance(value, tuple) or len(value) != 2:
        return False
    plan = plan_from(yard, value[0])
    if plan is None or plan.top.compare(number) > 0 or not is_server_set(yard, value[1]) or len(value[1]) == 0:
        return False
    return yard.density(value[1]) == Ratio.of(number)


def shows_atmost(value, yard, task, server, number):
    """Whether any value is a set that caps a task at no more than a number, or None where none is needed."""
    if needs_no_cap(yard, task, server, number):
        return value is None
    if not is_server_set(yard, value):
        return False
    most = cap(yard, task, server, value)
    return most is not None and most.compare(number) <= 0


def shows_atleast(value, yard, task, server, number):
    """Whether any value is a set that lifts a task to at least a number, or None where none is needed."""
    if needs_no_lift(number):
        return value is None
    if not is_server_set(yard, value):
        return False
    least = lift(yard, task, server, value)
    return least is not None and least.compare(number) >= 0


def shows_even(value, assignment):
    """Whether any value is a dict of heights."""
    return is_heights(assignment, value)


def shows_uneven(value, assignment):
    """Whether any value is a steep way."""
    if not assignment.is_way(value):
        return False
    counts = assignment.counts()
    return counts[value[-1].goal] <= counts[value[0].start] - 2


def plan_from(yard, value):
    """The plan of a yard that any value makes as a dict of amounts; None if it makes none."""
    try:
        return Plan(yard, value)
    except (InvalidAmounts, WrongSum):
        return None


JUDGES = {
    "fits": shows_fits,
    "barred": shows_barred,
    "best": shows_best,
    "beaten": shows_beaten,
    "dearer": shows_dearer,
    "top": shows_top,
    "atmost": shows_atmost,
    "atleast": shows_atleast,
    "even": shows_even,
    "uneven": shows_uneven,
}
