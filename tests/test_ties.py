"""Stage 6 [63], [64]: tight sets, ties, rings and thin plans."""

import itertools
import random
import unittest
from fractions import Fraction

from evenloads.best import best_plan, is_best, levels
from evenloads.errors import InvalidPlan, InvalidServers, InvalidYard, UnknownServer
from evenloads.plans import Plan
from evenloads.ratios import Ratio
from evenloads.ties import is_ring, is_tight, ring, thin, tight_set
from evenloads.yards import Yard
from helpers import CHANGES, NO_PLANS, NO_SERVERS, NO_SETS, NO_YARDS, STRANGE, Case, example, example_plan, names
from oracles import drawn_plan, drawn_yard, even_yard, exact, great_yards, in_time, loads_of, searched_least_places
from oracles import searched_loads, searched_room, subsets


def searched_tight(yard, servers, loads):
    """Whether a set is tight, by the words of the document."""
    works = [exact(yard.work(task)) for task in yard.tasks()
             if set(searched_least_places(yard, task, loads)) <= set(servers)]
    return sum(works, Fraction(0)) == searched_room(yard, servers, loads)


def has_rings(plan):
    """Whether ties contain a ring: more of them than a graph without one could have."""
    groups = [{("task", task)} for task in plan.yard.tasks()] + [{("server", one)} for one in plan.yard.servers()]
    for task, server in plan.ties():
        one = next(group for group in groups if ("task", task) in group)
        other = next(group for group in groups if ("server", server) in group)
        if one is other:
            return True
        groups = [group for group in groups if group is not one and group is not other] + [one | other]
    return False


def follows(ties, value):
    """Whether a list of tuples is a ring of these ties, by the words of the document."""
    if len(value) < 4 or len(value) % 2 or len(set(value)) < len(value) or not set(value) <= set(ties):
        return False
    turned = list(value[1:]) + [value[0]]
    return all(one[at % 2] == two[at % 2] for at, (one, two) in enumerate(zip(value, turned)))


def shared_plan(servers, tasks):
    """A plan in which each task gives to each server."""
    return Plan.shared(Yard({server: 1 for server in servers}, {task: (6, list(servers)) for task in tasks}))


class TightTest(Case):

    def holds(self, yard):
        """Tight sets are those of a search through all sets."""
        loads = searched_loads(yard)
        tight = []
        for chosen in subsets(yard.servers(), least=0):
            wanted = searched_tight(yard, chosen, loads)
            self.assertIs(is_tight(yard, chosen), wanted)
            if wanted:
                tight.append(set(chosen))
        for server in yard.servers():
            least = set.intersection(*[chosen for chosen in tight if server in chosen])
            self.assertIn(least, tight)
            found = tight_set(yard, server)
            self.assertIs(found.__class__, list)
            self.assertEqual(found, sorted(least))

    def test_the_documents_example(self):
        yard = example()
        self.assertEqual([tight_set(yard, server) for server in "abc"], [["a", "b"], ["a", "b"], ["c"]])
        self.assertEqual(tight_set(server="a", yard=yard), ["a", "b"])
        for servers, wanted in [([], True), (["a"], False), (["b"], False), (["c"], True), (["a", "b"], True),
                                (["a", "c"], False), (["c", "b", "a"], True)]:
            self.assertIs(is_tight(yard, servers), wanted)
            self.assertIs(is_tight(servers=tuple(servers), yard=yard), wanted)
        self.holds(yard)

    def test_one_way_chains(self):
        # The task of b could be at a, but none of a's can be elsewhere.
        yard = Yard({"a": 1, "b": 1}, {"x": (2, ["a"]), "y": (2, ["a", "b"])})
        self.assertEqual([tight_set(yard, "a"), tight_set(yard, "b")], [["a"], ["a", "b"]])
        self.assertIs(is_tight(yard, ["b"]), False)
        self.holds(yard)

    def test_without_work(self):
        for tasks in ({}, {"x": (0, ["a", "b"])}, {"x": (0, ["a"]), "y": (0, ["b", "c"])}):
            yard = Yard({"a": 2, "b": 1, "c": 3}, tasks)
            self.assertEqual([tight_set(yard, server) for server in "abc"], [["a"], ["b"], ["c"]])
            self.holds(yard)

    def test_works_of_0_beside_others(self):
        yard = Yard({"a": 1, "b": 1, "c": 1}, {"w": (0, ["a", "b"]), "x": (2, ["a"]), "y": (2, ["b", "c"]),
                                               "z": (2, ["b", "c"])})
        self.assertEqual([tight_set(yard, server) for server in "abc"], [["a"], ["b", "c"], ["b", "c"]])
        self.holds(yard)

    def test_levels_with_equal_loads(self):
        # One level of two parts between which nothing can be moved.
        yard = Yard({"a": 1, "b": 1, "c": 2, "d": 2}, {"x": (4, ["a", "b"]), "y": (8, ["c", "d"])})
        self.assertEqual(len(levels(yard)), 1)
        self.assertEqual([tight_set(yard, server) for server in "abcd"], [["a", "b"], ["a", "b"], ["c", "d"], ["c", "d"]])
        self.holds(yard)

    def test_beside_a_search_through_all_sets(self):
        chance = random.Random(61)
        for _ in range(60):
            self.holds(drawn_yard(chance))
        for _ in range(60):
            self.holds(even_yard(chance))

    def test_yards_that_were_changed(self):
        yard = example()
        for change in CHANGES:
            before = [tight_set(yard, server) for server in yard.servers()]
            later = change(yard)
            self.holds(later)
            self.assertEqual([tight_set(yard, server) for server in yard.servers()], before)
            yard = later

    def test_sets_in_any_sequence(self):
        yard = Yard({server: 1 for server in "abc"}, {"x": (3, ["a", "b", "c"])})
        for servers in itertools.permutations("abc"):
            self.assertIs(is_tight(yard, servers), True)
            self.assertIs(is_tight(yard, list(servers)), True)
            self.assertIs(is_tight(yard, servers[:2]), False)

    def test_what_is_returned_is_new_each_time(self):
        tight_set(example(), "a").clear()
        self.assertEqual(tight_set(example(), "a"), ["a", "b"])

    def test_errors(self):
        for value in NO_YARDS:
            for call in (tight_set, is_tight):
                self.fails(InvalidYard, {"value": value}, call, value, None)
        for value in NO_SERVERS:
            self.fails(UnknownServer, {"value": value}, tight_set, example(), value)
        for value in NO_SETS:
            self.fails(InvalidServers, {"value": value}, is_tight, example(), value)
            self.fails(InvalidServers, {"value": value}, is_tight, servers=value, yard=example())

    def test_great_yards(self):
        for yard in great_yards(random.Random(62)):
            for server in yard.servers():
                found = in_time(self, tight_set, yard, server)
                self.assertIn(server, found)
                self.assertIs(in_time(self, is_tight, yard, found), True)
            self.assertIs(is_tight(yard, yard.servers()), True)


class IsRingTest(Case):

    def test_two_tasks_at_two_servers(self):
        plan = shared_plan("ab", "xy")
        wanted = [("x", "a"), ("x", "b"), ("y", "b"), ("y", "a")]
        for value in itertools.permutations(wanted):
            self.assertIs(is_ring(plan, list(value)), follows(wanted, value))
            self.assertIs(is_ring(plan, value), follows(wanted, value))
        self.assertIs(is_ring(value=wanted, plan=plan), True)
        # Begun at another tie, or the other way round, only where the first two ties have the same task.
        turned = [wanted[at:] + wanted[:at] for at in range(4)]
        self.assertEqual([is_ring(plan, value) for value in turned], [True, False, True, False])
        self.assertEqual([is_ring(plan, value[::-1]) for value in turned], [True, False, True, False])

    def test_all_lists_of_ties(self):
        counts = []
        for plan in (shared_plan("ab", "xyz"), shared_plan("abc", "xy"), shared_plan("ab", "xy")):
            ties = plan.ties()
            for many in (0, 1, 2, 3, 4, 5, 6):
                found = [is_ring(plan, list(value)) for value in itertools.permutations(ties, many)]
                self.assertEqual(found, [follows(ties, value) for value in itertools.permutations(ties, many)])
                counts.append(sum(found))
        self.assertGreater(max(counts), 10)

    def test_tasks_and_servers_that_come_again(self):
        plan = shared_plan("abcd", "vwxyz")
        # Two rings that have a task in common, and two with a server in common, each gone around as one.
        for value in ([("x", "a"), ("x", "b"), ("y", "b"), ("y", "c"), ("x", "c"), ("x", "d"), ("z", "d"), ("z", "a")],
                      [("x", "a"), ("x", "b"), ("y", "b"), ("y", "a"), ("v", "a"), ("v", "c"), ("w", "c"), ("w", "a")]):
            self.assertTrue(follows(plan.ties(), value))
            self.assertIs(is_ring(plan, value), True)
            self.assertIs(is_ring(plan, value[2:] + value[:2]), True)

    def test_a_tie_twice(self):
        plan = shared_plan("abc", "xyz")
        small = [("x", "a"), ("x", "b"), ("y", "b"), ("y", "a")]
        self.assertIs(is_ring(plan, small), True)
        for value in (small + small, [("x", "a"), ("x", "a"), ("y", "a"), ("y", "a")],
                      [("x", "a"), ("x", "b"), ("x", "b"), ("x", "a")]):
            self.assertIs(is_ring(plan, value), False)

    def test_too_few_and_odd_numbers(self):
        plan = shared_plan("abc", "xyz")
        ties = [("x", "a"), ("x", "b"), ("y", "b"), ("y", "a")]
        for many in (0, 1, 2, 3):
            self.assertIs(is_ring(plan, ties[:many]), False)
        for value in ([("x", "a"), ("x", "b")], [("x", "a"), ("y", "a")], ties + [("x", "c")],
                      [("x", "a"), ("x", "b"), ("y", "b"), ("y", "c"), ("z", "c")],
                      [("x", "a"), ("x", "b"), ("x", "c")]):
            self.assertIs(is_ring(plan, value), False)

    def test_ties_of_other_plans(self):
        yard = Yard({"a": 1, "b": 1}, {"x": (2, ["a", "b"]), "y": (2, ["a", "b"])})
        value = [("x", "a"), ("x", "b"), ("y", "b"), ("y", "a")]
        self.assertIs(is_ring(Plan.shared(yard), value), True)
        for amounts in ({("x", "a"): 2, ("y", "b"): 2}, {("x", "a"): 1, ("x", "b"): 1, ("y", "b"): 2}):
            self.assertIs(is_ring(Plan(yard, amounts), value), False)
        self.assertIs(is_ring(Plan.shared(yard.with_work("x", 0)), value), False)

    def test_values_of_any_kind(self):
        plan = shared_plan("ab", "xy")
        right = [("x", "a"), ("x", "b"), ("y", "b"), ("y", "a")]
        for value in STRANGE + [0, 1, "", "xaxb", {}, {tie: 1 for tie in right}, set(right), iter(right), plan, plan.yard,
                                Ratio(4), [right], [[]], ("x", "a")]:
            self.assertIs(is_ring(plan, value), False)
        for at in range(4):
            for other in STRANGE + [0, "xa", ["x", "a"], list(right[at]), right[at] + ("a",), right[at][:1], (), {}, [],
                                    (["x"], "a"), ("x", {}), (None, "a"), ("x", True), right[at][::-1], Ratio(1),
                                    ("x", "q"), ("q", "a"), ("q", "q")]:
                self.assertIs(is_ring(plan, right[:at] + [other] + right[at + 1:]), False)

    def test_values_that_are_no_plans(self):
        for value in NO_PLANS:
            self.fails(InvalidPlan, {"value": value}, is_ring, value, [])
            self.fails(InvalidPlan, {"value": value}, is_ring, value, None)
            self.fails(InvalidPlan, {"value": value}, ring, value)
            self.fails(InvalidPlan, {"value": value}, thin, plan=value)


class ThinTest(Case):

    def holds(self, plan):
        """A ring is found just where there is one, and a thin plan with the same loads; return how many ties it has."""
        amounts = plan.amounts()
        found = ring(plan)
        self.assertEqual(found is None, not has_rings(plan))
        if found is not None:
            self.assertIs(found.__class__, list)
            self.assertTrue(follows(plan.ties(), found))
            self.assertIs(is_ring(plan, found), True)
        thinned = thin(plan)
        self.assertIs(thinned.__class__, Plan)
        self.assertTrue(thinned.yard == plan.yard)
        self.assertEqual(thinned.loads(), plan.loads())
        self.assertFalse(has_rings(thinned))
        self.assertIsNone(ring(thinned))
        self.assertTrue(thin(thinned).loads() == plan.loads())
        self.assertTrue(set(thinned.ties()) <= set(plan.ties()))
        self.assertEqual(plan.amounts(), amounts)
        return len(thinned.ties())

    def test_plans_without_a_ring(self):
        for plan in (Plan.first(example()), example_plan(), Plan(Yard({"a": 1}), {}), shared_plan("abcd", "x"),
                     shared_plan("a", "wxyz"), Plan.shared(example())):
            self.assertIsNone(ring(plan))
            self.holds(plan)
        # The ties of all these are needed for the loads.
        self.assertTrue(thin(example_plan()) == example_plan())

    def test_plans_with_rings(self):
        plan = shared_plan("ab", "xy")
        self.assertEqual(sorted(ring(plan)), plan.ties())
        self.assertEqual(self.holds(plan), 2)
        self.assertEqual(self.holds(shared_plan("abc", "uvwxyz")), 6)
        self.assertTrue(thin(plan=plan).loads() == plan.loads())
        self.assertEqual(ring(plan=plan), ring(plan))

    def test_a_long_ring(self):
        servers = "abcdefghijkl"
        tasks = {"t" + one: (2, [one, other]) for one, other in zip(servers, servers[1:] + servers[0])}
        plan = Plan.shared(Yard({server: 1 for server in servers}, tasks))
        self.assertEqual(len(ring(plan)), 24)
        self.assertEqual(self.holds(plan), 12)
        amounts = {}
        for at, task in enumerate(plan.yard.tasks()):
            first, last = plan.yard.places(task)
            amounts[task, first], amounts[task, last] = 1 + Ratio(at, 10 ** 29), 1 - Ratio(at, 10 ** 29)
        self.assertEqual(self.holds(Plan(plan.yard, amounts)), 23)

    def test_drawn_plans(self):
        chance = random.Random(63)
        rings = 0
        for _ in range(120):
            yard = drawn_yard(chance)
            for plan in (Plan.shared(yard), drawn_plan(yard, chance), best_plan(yard)):
                self.holds(plan)
                rings = rings + (ring(plan) is not None)
        self.assertGreater(rings, 60)

    def test_best_plans_stay_best(self):
        chance = random.Random(64)
        for _ in range(30):
            yard = even_yard(chance)
            plan = best_plan(yard).mix(best_plan(yard), Ratio(1, 3))
            self.assertIs(is_best(thin(plan)), True)

    def test_plans_of_changed_yards(self):
        yard = example()
        for change in CHANGES:
            yard = change(yard)
            self.holds(Plan.shared(yard))

    def test_a_task_and_a_server_of_the_same_name(self):
        yard = Yard({"a": 1, "b": 1}, {"a": (2, ["a", "b"]), "b": (2, ["a", "b"])})
        self.holds(Plan.shared(yard))
        self.assertIs(is_ring(Plan.shared(yard), [("a", "a"), ("a", "b"), ("b", "b"), ("b", "a")]), True)
        self.holds(Plan(yard, {("a", "a"): 1, ("a", "b"): 1, ("b", "a"): 2}))

    def test_great_yards(self):
        chance = random.Random(65)
        yards = great_yards(chance)
        full = Yard({server: 3 for server in names("s", 12)},
                    {task: (Ratio(10 ** 29 + at, 10 ** 29 - at), names("s", 12)) for at, task in enumerate(names("t", 24))})
        for plan in [Plan.shared(yard) for yard in yards + [full]] + [drawn_plan(yard, chance) for yard in yards]:
            found = in_time(self, ring, plan)
            self.assertEqual(found is None, not has_rings(plan))
            self.assertIs(found is None or in_time(self, is_ring, plan, found), True)
            thinned = in_time(self, thin, plan)
            self.assertFalse(has_rings(thinned))
            self.assertEqual(loads_of(thinned), loads_of(plan))


if __name__ == "__main__":
    unittest.main()
