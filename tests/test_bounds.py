"""Stage 4 [41], [42] and FITS OR BARRED: plans within bounds, bars, and the least top."""

import itertools
import random
import unittest

from evenloads.bounds import bar, is_bar, is_within, least_top, place_all, plan_within, top_set
from evenloads.errors import InvalidBounds, InvalidPlan, InvalidYard, Overfull
from evenloads.plans import Plan
from evenloads.ratios import Ratio
from evenloads.yards import Yard
from helpers import NO_NAMES, NO_PLANS, NO_YARDS, STRANGE, Case, example, example_plan, no_bounds, no_lists
from oracles import bars, drawn_plan, drawn_yard, exact, great_yards, in_time, loads_of, ratio, searched_levels
from oracles import subsets

LONG = 10 ** 30 - 1
LITTLE = Ratio(1, LONG)


def drawn_bounds(yard, chance):
    """A dict of bounds, many of them near the loads of a plan."""
    loads = drawn_plan(yard, chance).loads()
    return {server: chance.choice([loads[server], loads[server], loads[server] + Ratio(1, chance.randint(1, 9)),
                                   Ratio(chance.randint(0, 20), chance.randint(1, 6))]) for server in yard.servers()}


class WithinTest(Case):

    def test_a_dict_and_single_amounts(self):
        plan = example_plan()
        for bounds, wanted in [({"a": 4, "b": 4, "c": Ratio(1, 2)}, True), ({"c": 1, "b": 5, "a": 4}, True),
                               ({"a": 4, "b": 4, "c": Ratio(1, 2) - LITTLE}, False), ({"a": 4, "b": 3, "c": 9}, False),
                               (4, True), (Ratio(4), True), (Ratio(9, 2), True), (Ratio(4) - LITTLE, False),
                               (3, False), (0, False), (LONG, True)]:
            self.assertIs(is_within(plan, bounds), wanted)
            self.assertIs(is_within(bounds=bounds, plan=plan), wanted)

    def test_without_tasks(self):
        self.assertIs(is_within(Plan(Yard({"a": 1}), {}), 0), True)
        self.assertIs(is_within(Plan(Yard({"a": 1}), {}), {"a": Ratio(0)}), True)

    def test_values_that_are_no_plans(self):
        for value in NO_PLANS:
            self.fails(InvalidPlan, {"value": value}, is_within, value, 3)
            self.fails(InvalidPlan, {"value": value}, is_within, value, None)

    def test_values_that_are_no_bounds(self):
        for value in no_bounds("abc"):
            self.fails(InvalidBounds, {"value": value}, is_within, example_plan(), value)
            self.fails(InvalidBounds, {"value": value}, is_within, bounds=value, plan=example_plan())


class ErrorsTest(Case):

    def test_values_that_are_no_yards(self):
        for value in NO_YARDS:
            for bounds in (3, None, {}):
                for call in (plan_within, bar, place_all):
                    self.fails(InvalidYard, {"value": value}, call, value, bounds)
                    self.fails(InvalidYard, {"value": value}, call, bounds=bounds, yard=value)
                self.fails(InvalidYard, {"value": value}, is_bar, value, bounds, ["a"])
            for call in (least_top, top_set):
                self.fails(InvalidYard, {"value": value}, call, value)
                self.fails(InvalidYard, {"value": value}, call, yard=value)

    def test_values_that_are_no_bounds(self):
        for value in no_bounds("abc"):
            for call in (plan_within, bar, place_all):
                self.fails(InvalidBounds, {"value": value}, call, example(), value)
                self.fails(InvalidBounds, {"value": value}, call, bounds=value, yard=example())
            self.fails(InvalidBounds, {"value": value}, is_bar, example(), value, ["a"])
            self.fails(InvalidBounds, {"value": value}, is_bar, example(), value, None)


class FitsOrBarredTest(Case):

    def decided(self, yard, bounds):
        """Just one of a plan within the bounds and a bar is there; return whether it is the plan."""
        limits = bounds if isinstance(bounds, dict) else {server: bounds for server in yard.servers()}
        found, barring = plan_within(yard, bounds), bar(yard, bounds)
        self.assertIs(found is None, barring is not None)
        for chosen in subsets(yard.servers()):
            self.assertIs(is_bar(yard, bounds, chosen), chosen in bars(yard, limits))
        if found is None:
            self.assertIs(barring.__class__, list)
            self.assertEqual(barring, sorted(set(barring)))
            self.assertIn(barring, bars(yard, limits))
            error = self.fails(Overfull, {}, place_all, yard, bounds)
            self.assertIs(error.bar.__class__, list)
            self.assertEqual(error.bar, sorted(set(error.bar)))
            self.assertIs(is_bar(yard, bounds, error.bar), True)
            return False
        self.assertEqual(bars(yard, limits), [])
        for plan in (found, place_all(yard, bounds)):
            self.assertIs(plan.__class__, Plan)
            self.assertTrue(plan.yard == yard)
            self.assertTrue(all(load <= exact(limits[server]) for server, load in loads_of(plan).items()))
            self.assertIs(is_within(plan, bounds), True)
        return True

    def test_just_enough_and_just_too_little(self):
        # x needs 6 at a and b together; all three have 9.
        for bounds, wanted in [({"a": 6, "b": 0, "c": 2}, True), ({"a": 2, "b": 4, "c": Ratio(3, 2)}, True),
                               ({"a": 3, "b": 3, "c": Ratio(3, 2)}, True), ({"a": 9, "b": 9, "c": 0}, False),
                               ({"a": 3, "b": Ratio(3) - LITTLE, "c": 9}, False), (3, True), (Ratio(3), True),
                               ({"a": 3, "b": 3, "c": Ratio(3, 2) - LITTLE}, False), (Ratio(3) - LITTLE, False),
                               ({"a": 6, "b": 2, "c": Ratio(1, 2)}, True), (0, False), (LONG, True),
                               ({"a": 6, "b": 2, "c": Ratio(1, 2) - LITTLE}, False)]:
            self.assertIs(self.decided(example(), bounds), wanted)

    def test_by_name(self):
        self.assertIs(is_within(plan_within(bounds=3, yard=example()), 3), True)
        self.assertIs(is_bar(value=bar(bounds=2, yard=example()), bounds=2, yard=example()), True)
        self.assertIs(is_within(place_all(bounds=3, yard=example()), 3), True)

    def test_without_tasks_and_works_of_0(self):
        for yard in (Yard({"a": 1}), Yard({"a": 3, "b": 1}), Yard({"a": 3, "b": 1}, {"x": (0, ["b"])})):
            for bounds in (0, Ratio(0), 5, {server: 0 for server in yard.servers()}):
                self.assertIs(self.decided(yard, bounds), True)

    def test_shifted_far(self):
        # The last task fits only if each one before it goes on by one server.
        servers = "abcdefgh"
        tasks = {"t" + one: (1, [one, other]) for one, other in zip(servers, servers[1:])}
        yard = Yard({server: 1 for server in servers}, {**tasks, "z": (1, ["a"])})
        self.assertIs(self.decided(yard, 1), True)
        self.assertIs(self.decided(yard, {**{server: 1 for server in servers}, "h": Ratio(1) - LITTLE}), False)

    def test_drawn_yards(self):
        chance = random.Random(41)
        told = []
        for _ in range(150):
            yard = drawn_yard(chance)
            told.append(self.decided(yard, drawn_bounds(yard, chance)))
            told.append(self.decided(yard, Ratio(chance.randint(0, 40), chance.randint(1, 6))))
        self.assertGreater(min(told.count(True), told.count(False)), 30)

    def test_at_the_very_edge_of_drawn_yards(self):
        chance = random.Random(42)
        for _ in range(60):
            yard = drawn_yard(chance, servers=4)
            top = least_top(yard)
            self.assertIs(self.decided(yard, top), True)
            if top.top > 0:
                self.assertIs(self.decided(yard, top - min(LITTLE, top, key=exact)), False)
            loads = drawn_plan(yard, chance).loads()
            self.assertIs(self.decided(yard, loads), True)
            full = [server for server in loads if loads[server].top > 0]
            if full:
                # The sum of all that fits is now a little too small.
                less = {**loads, full[0]: loads[full[0]] - min(LITTLE, loads[full[0]], key=exact)}
                self.assertIs(self.decided(yard, less), False)


class IsBarTest(Case):

    def test_lists_and_tuples_in_any_sequence(self):
        for value in itertools.permutations("ab"):
            self.assertIs(is_bar(example(), 2, list(value)), True)
            self.assertIs(is_bar(example(), 2, value), True)
            self.assertIs(is_bar(value=value, bounds={"a": 2, "b": 3, "c": 0}, yard=example()), True)
        for value in itertools.permutations("abc"):
            self.assertIs(is_bar(example(), 2, list(value)), True)

    def test_sets_with_just_the_weight_of_their_bounds(self):
        self.assertIs(is_bar(example(), 3, ["a", "b"]), False)
        self.assertIs(is_bar(example(), Ratio(3) - LITTLE, ["a", "b"]), True)
        self.assertIs(is_bar(example(), {"a": 6, "b": 0, "c": 0}, ["b", "a"]), False)
        self.assertIs(is_bar(example(), {"a": 6, "b": 0, "c": 0}, ["c"]), True)
        self.assertIs(is_bar(example(), {"a": 0, "b": 0, "c": Ratio(1, 2)}, ["c"]), False)
        self.assertIs(is_bar(example(), 0, ["a"]), False)
        self.assertIs(is_bar(example(), 0, ["b"]), False)

    def test_no_lists(self):
        for value in no_lists() + [[], (), {"a", "b"}, frozenset("ab"), "ab", {"a": 1, "b": 1}, example_plan(),
                                   iter(["a", "b"])]:
            self.assertIs(is_bar(example(), 0, value), False)

    def test_servers_twice_and_unknown_ones(self):
        for value in [["a", "b", "a"], ("a", "b", "b"), ["c", "c"], ["a", "b", "d"], ["q"], ["x"], ["ab"], [["a", "b"]],
                      ["a", ["b"]], [("a", "b")]]:
            self.assertIs(is_bar(example(), 0, value), False)
        for value in NO_NAMES + STRANGE:
            self.assertIs(is_bar(example(), 0, [value]), False)
            self.assertIs(is_bar(example(), 0, ("a", "b", value)), False)

    def test_what_is_passed_stays(self):
        value, bounds = ["b", "a"], {"c": 0, "b": 1, "a": 2}
        is_bar(example(), bounds, value), bar(example(), bounds), plan_within(example(), bounds)
        self.assertEqual((value, bounds, list(bounds)), (["b", "a"], {"c": 0, "b": 1, "a": 2}, ["c", "b", "a"]))


class TopTest(Case):

    def test_the_documents_example(self):
        self.same_ratio(least_top(example()), 3)
        self.same_ratio(least_top(yard=example()), 3)
        self.assertEqual(top_set(example()), ["a", "b"])
        self.assertEqual(top_set(yard=example()), ["a", "b"])

    def test_without_tasks_and_works_of_0(self):
        for yard in (Yard({"b": 2, "a": 1}), Yard({"b": 2, "a": 1}, {"x": (0, ["a"])}),
                     Yard({"b": 2, "a": 1}, {"x": (Ratio(0), ["a", "b"])})):
            self.same_ratio(least_top(yard), 0)
            self.assertEqual(top_set(yard), ["a", "b"])
        self.assertEqual(top_set(Yard({"a": 2, "b": 1}, {"x": (LITTLE, ["a"]), "y": (0, ["b"])})), ["a"])

    def test_several_sets_of_the_greatest_density(self):
        yard = Yard({"a": 1, "b": 2, "c": 1, "d": 1},
                    {"w": (3, ["a"]), "x": (6, ["b"]), "y": (3, ["a", "c"]), "z": (1, ["d"])})
        self.same_ratio(least_top(yard), 3)
        self.assertEqual(top_set(yard), ["a", "b", "c"])
        self.assertEqual(top_set(yard.with_work("z", 3)), ["a", "b", "c", "d"])
        self.assertEqual(top_set(yard.with_work("y", Ratio(3) - LITTLE)), ["a", "b"])
        self.assertEqual(top_set(yard.with_work("x", Ratio(6) + LITTLE)), ["b"])

    def test_a_new_list_each_time(self):
        yard = example()
        top_set(yard).clear()
        self.assertEqual(top_set(yard), ["a", "b"])

    def test_beside_a_search_through_all_sets(self):
        chance = random.Random(43)
        for _ in range(200):
            yard = drawn_yard(chance, servers=6, tasks=8)
            load, servers, _ = searched_levels(yard)[0]
            self.assertEqual(least_top(yard), ratio(load))
            self.assertEqual(top_set(yard), servers)
            self.assertIs(is_within(plan_within(yard, least_top(yard)), least_top(yard)), True)


class GreatTest(Case):

    def test_great_yards(self):
        for yard in great_yards(random.Random(44)):
            top, servers = in_time(self, least_top, yard), in_time(self, top_set, yard)
            self.assertEqual(yard.density(servers), top)
            found = in_time(self, plan_within, yard, top)
            self.assertEqual(found.top, top)
            self.assertIsNone(in_time(self, bar, yard, top))
            less = top - LITTLE
            self.assertIsNone(in_time(self, plan_within, yard, less))
            self.assertIs(in_time(self, is_bar, yard, less, in_time(self, bar, yard, less)), True)
            self.assertIs(in_time(self, is_within, found, less), False)
            self.fails(Overfull, {}, in_time, self, place_all, yard, less)
            bounds = Plan.shared(yard).loads()
            self.assertIs(is_within(in_time(self, place_all, yard, bounds), bounds), True)
            bounds["sf"] = bounds["sf"] - bounds["sf"] * LITTLE
            self.assertIs(is_bar(yard, bounds, bar(yard, bounds)), True)


if __name__ == "__main__":
    unittest.main()
