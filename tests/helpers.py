"""What several test files share."""

import itertools
import string
import unittest

from evenloads.jobs import Assignment
from evenloads.moves import Gift, Move
from evenloads.plans import Plan
from evenloads.ratios import Ratio
from evenloads.yards import Yard

# Values of every other kind, none of them a NUMBER, a NAME, a list, a tuple or a dict.
STRANGE = [None, True, False, b"a", object(), {"a"}, frozenset(["a"]), range(2), Ratio, len]

# No NAMES, of whatever kind.
NO_NAMES = STRANGE + ["", "abcdefghi", "A", "aB", "a1", "1", "a b", " a", "a ", "a_b", "a\n", "-", "`", "{",
                      0, 1, Ratio(1), [], ["a"], (), ("a",), {}, {"a": 1}]

# No NUMBERS, of whatever kind.
NO_NUMBERS = STRANGE + ["", "1", "3/4", "a", [], [1], (), (1, 2), {}, {1: 2}, [Ratio(1)]]

# Those of them that may be keys of a dict.
NO_NAME_KEYS = [value for value in NO_NAMES if not isinstance(value, (list, dict, set, Ratio))]

# NUMBERS below 0: no AMOUNTS.
BELOW = [-1, -10 ** 29, Ratio(-1), Ratio(-1, 10 ** 29), Ratio(3, -4)]

NO_AMOUNTS = NO_NUMBERS + BELOW

NO_SPEEDS = NO_NUMBERS + [0, -1, 1001, 10 ** 29, Ratio(1), Ratio(3, 2), Ratio(1000)]


# No Yards, no Plans and no Gifts, of whatever kind.
OTHERS = STRANGE + ["", "a", 0, 1, Ratio(1), [], ["a"], (), ("x", "a"), {}, {"a": 1}, Move("x", "a", "b")]
NO_YARDS = OTHERS + [Yard, Plan, Plan(Yard({"a": 1}), {}), Gift(1, Move("x", "a", "b")), {"x": (1, ["a"])}]
NO_PLANS = OTHERS + [Yard, Plan, Yard({"a": 1}), Gift(1, Move("x", "a", "b")), {("x", "a"): 1}]
NO_ASSIGNMENTS = OTHERS + [Assignment, Yard.jobs(["a"], p=["a"]), Plan(Yard.jobs(["a"], p=["a"]), {("p", "a"): 1}),
                           {"p": "a"}, [Assignment(Yard.jobs(["a"], p=["a"]), {"p": "a"})]]
NO_GIFTS = OTHERS + [Gift, Yard({"a": 1}), Plan(Yard({"a": 1}), {}), [Move("x", "a", "b")],
                     (Gift(1, Move("x", "a", "b")),)]

# No servers and no tasks of the document's example, of whatever kind.
NO_SERVERS = NO_NAMES + ["d", "x", "ab", "server", ["a", "b"], ("x", "a")]
NO_TASKS = NO_NAMES + ["a", "w", "xy", "task", ["x"], ("x", "y"), ("x", "a")]

# Each method and operator that makes a yard of another one, one after the other from the document's example on.
CHANGES = [lambda yard: yard.with_work("x", 1), lambda yard: yard.with_place("z", "a"),
           lambda yard: yard + ("w", Ratio(7, 2), ["b"]), lambda yard: yard.with_server("d", 2, "w", "x"),
           lambda yard: yard - "y", lambda yard: yard.with_speed("d", 1), lambda yard: yard.scaled(Ratio(3, 2)),
           lambda yard: yard.without_place("z", "c"),
           lambda yard: yard | Yard({"a": 1, "b": 1, "c": 2, "d": 1}, {"y": (4, ["b", "d"])})]


# The same from the whole yard below on, such that the yards stay whole.
JOB_CHANGES = [lambda yard: yard.with_place("r", "b"), lambda yard: yard + ("s", 1, ["c"]), lambda yard: yard - "p",
               lambda yard: yard.with_server("d", 1, "q", "s"), lambda yard: yard.without_place("q", "a"),
               lambda yard: yard | Yard.jobs(list("abcd"), t=["a"], u=["a", "b"], v=["a", "d"]),
               lambda yard: yard.with_work("s", 5).with_work("s", Ratio(1)),
               lambda yard: yard.with_speed("a", 2).with_speed("a", 1), lambda yard: yard.scaled(1)]


def jobs_example():
    """A whole yard with three servers and four jobs."""
    return Yard.jobs(["a", "b", "c"], p=["a"], q=["a", "b"], r=["a", "c"], o=["b", "a", "c"])


def example():
    """The yard of the document's examples."""
    return Yard({"a": 1, "b": 1, "c": 2}, {"x": (6, ["a", "b"]), "y": (2, ["b", "c"]), "z": (1, ["c"])})


def example_plan():
    """The plan of the document's examples, which is not best."""
    return Plan(example(), {("x", "a"): 4, ("x", "b"): 2, ("y", "b"): 2, ("z", "c"): 1})


def no_bounds(servers):
    """Values that are no bounds of these servers."""
    right = {server: 1 for server in servers}
    fewer = {server: 1 for server in servers[1:]}
    found = NO_AMOUNTS + [fewer, {**right, "q": 1}, {**fewer, "q": 1}, {**right, "q": None}, {**right, None: 1},
                          {**fewer, "x": 1}, list(right), tuple(right.items()), list(right.items()), example()]
    return found + [{**right, server: value} for server in servers for value in NO_AMOUNTS]


def names(first, many):
    """So many sorted names that begin with this letter: sa, sb, .. or, of more than 26, saaa, saab, .."""
    tails = itertools.product(string.ascii_lowercase, repeat=1 if many <= 26 else 3)
    return [first + "".join(tail) for tail in itertools.islice(tails, many)]


def no_lists():
    """Values that are neither a list nor a tuple."""
    return STRANGE + [0, 1, "", "a", "abc", {}, {"a": 1}, Ratio(1), example()]


def no_sets(servers):
    """Values that are no list of different ones of these servers, at least one."""
    server, last = servers[0], servers[-1]
    found = no_lists() + [[], (), [server, server], (last, server, last), [*servers, server], [[server]],
                          [(server,)], ((server, last),), [server, None], [server, ["b"]], [server, {}], [server, 1]]
    for name in NO_NAMES + ["q", "x", "zz", server + last]:
        found = found + [[name], (server, name), [name, server]]
    return found


# No sets of servers of the document's example, of whatever kind; the empty list is one.
NO_SETS = no_lists() + [["a", "a"], ("b", "a", "b"), ["d"], ["x"], ["ab"], [["a"]], [("a", "b")], {"a"}, "ab",
                        ["a", "b", "c", "d"], ["a", ["b"]]] + [["a", value] for value in NO_NAMES]


class Case(unittest.TestCase):
    """A test case with the checks that several files need."""

    def fails(self, error, told, call, /, *args, **named):
        """A call raises an error of just this class, whose attributes are as told."""
        with self.assertRaises(error) as caught:
            call(*args, **named)
        self.assertIs(caught.exception.__class__, error)
        for name, value in told.items():
            found = getattr(caught.exception, name)
            self.assertIs(found.__class__, value.__class__, name)
            self.assertEqual(found, value)
        return caught.exception

    def same_ratio(self, found, top, bottom=1):
        """A value is the Ratio with just this top and bottom, both plain integers."""
        self.assertIs(found.__class__, Ratio)
        self.assertEqual((found.top, found.bottom), (top, bottom))
        self.assertIs(found.top.__class__, int)
        self.assertIs(found.bottom.__class__, int)

    def same_integer(self, found, wanted):
        """A value is just this plain integer."""
        self.assertIs(found.__class__, int)
        self.assertEqual(found, wanted)
