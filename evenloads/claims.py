"""What claims are made of, behind their first words."""

from evenloads.checks import is_bounds
from evenloads.jobs import Assignment
from evenloads.plans import Plan
from evenloads.ratios import is_amount, is_number
from evenloads.yards import Yard, pairs_of


def is_claimed(word, parts):
    """Whether a string and a tuple of any values make up a claim."""
    if word not in FORMS or len(parts) != LENGTHS[word]:
        return False
    is_form = FORMS[word]
    return is_form(*parts)


def is_bounded_yard(yard, bounds):
    """Whether these are a Yard and bounds of it."""
    return isinstance(yard, Yard) and is_bounds(yard, bounds)


def is_plan(plan):
    """Whether this is a Plan."""
    return isinstance(plan, Plan)


def is_pair_of_plans(plan, other):
    """Whether these are Plans of equal yards."""
    return isinstance(plan, Plan) and isinstance(other, Plan) and plan.yard == other.yard


def is_yard_and_number(yard, number):
    """Whether these are a Yard and a NUMBER."""
    return isinstance(yard, Yard) and is_number(number)


def is_amount_at(yard, task, server, number):
    """Whether these are a Yard, a task of it with one of its places, and an AMOUNT."""
    if not isinstance(yard, Yard) or not isinstance(task, str) or not isinstance(server, str):
        return False
    return (task, server) in pairs_of(yard) and is_amount(number)


def is_assignment(assignment):
    """Whether this is an Assignment."""
    return isinstance(assignment, Assignment)


LENGTHS = {
    "fits": 2,
    "barred": 2,
    "best": 1,
    "beaten": 1,
    "dearer": 2,
    "top": 2,
    "atmost": 4,
    "atleast": 4,
    "even": 1,
    "uneven": 1,
}

FORMS = {
    "fits": is_bounded_yard,
    "barred": is_bounded_yard,
    "best": is_plan,
    "beaten": is_plan,
    "dearer": is_pair_of_plans,
    "top": is_yard_and_number,
    "atmost": is_amount_at,
    "atleast": is_amount_at,
    "even": is_assignment,
    "uneven": is_assignment,
}
