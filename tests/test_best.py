"""Stage 5 [51] to [53] and ONE FOR ALL: best plans, best loads, levels, and the rule."""

import random
import unittest

from evenloads.best import best_loads, best_plan, first_fault, is_best, levels
from evenloads.bounds import is_within, least_top, top_set
from evenloads.costs import Cost
from evenloads.errors import InvalidPlan, InvalidYard
from evenloads.moves import Move
from evenloads.plans import Plan
from evenloads.ratios import Ratio
from evenloads.yards import Yard
from helpers import CHANGES, NO_PLANS, NO_YARDS, Case, example, example_plan
from oracles import drawn_plan, drawn_yard, exact, great_yards, in_time, is_never_dearer, loads_of, ratio
from oracles import searched_levels, searched_loads

LONG = 10 ** 30 - 1


def faults(plan):
    """All faults of a plan, in order, as tuples."""
    loads, found = loads_of(plan), []
    for task in plan.yard.tasks():
        for start in plan.yard.servers():
            for goal in plan.yard.servers():
                if plan[task, start].top > 0 and goal in plan.yard.places(task) and loads[goal] < loads[start]:
                    found.append((task, start, goal))
    return found


def changed_yards(yard):
    """Yards that each method and operator of yards makes of one with the tasks x, y and the servers a, b."""
    return [yard + ("w", 3, ["a", "b"]), yard - "x", yard | Yard({"a": 1, "b": 1, "c": 2}, {"v": (5, ["c", "a"])}),
            yard.with_work("x", Ratio(1, 3)), yard.with_place("x", "c"), yard.without_place("x", "a"),
            yard.with_server("d", 5, "x", "z"), yard.with_server("d", 5), yard.with_speed("a", 7),
            yard.scaled(Ratio(2, 7)), yard.scaled(0)]


class BestCase(Case):

    def keeps_the_rule(self, plan):
        self.assertEqual(faults(plan), [])
        self.assertIs(is_best(plan), True)
        self.assertIsNone(first_fault(plan))

    def agrees(self, yard):
        """Levels, best loads and a best plan are those of a search through all sets."""
        wanted = searched_levels(yard)
        loads = searched_loads(yard)
        found = levels(yard)
        self.assertEqual([(exact(load), servers) for load, servers, _ in found],
                         [(load, servers) for load, servers, _ in wanted])
        for load, servers, tasks in found:
            least = [task for task in yard.tasks() if min(loads[place] for place in yard.places(task)) == exact(load)]
            self.assertEqual(tasks, least)
            self.same_ratio(load, exact(load).numerator, exact(load).denominator)
        self.assertEqual({server: exact(load) for server, load in best_loads(yard).items()}, loads)
        self.assertEqual(list(best_loads(yard)), yard.servers())
        plan = best_plan(yard)
        self.assertIs(plan.__class__, Plan)
        self.assertTrue(plan.yard == yard)
        self.assertEqual(loads_of(plan), loads)
        self.keeps_the_rule(plan)
        return plan


class LoadsTest(BestCase):

    def test_the_documents_example(self):
        self.assertEqual(best_loads(example()), {"a": Ratio(3), "b": Ratio(3), "c": Ratio(3, 2)})
        self.assertEqual([(str(load), servers, tasks) for load, servers, tasks in levels(example())],
                         [("3", ["a", "b"], ["x"]), ("3/2", ["c"], ["y", "z"])])
        self.assertEqual(best_plan(example()).loads(), best_loads(example()))
        for found in (best_loads(yard=example()), best_plan(yard=example()).loads()):
            self.assertEqual(found, best_loads(example()))
        self.assertEqual(levels(yard=example()), levels(example()))

    def test_without_tasks(self):
        for yard in (Yard({"a": 1}), Yard({"b": 5, "a": 7})):
            self.assertEqual(best_loads(yard), {server: Ratio(0) for server in yard.servers()})
            self.assertEqual(levels(yard), [(Ratio(0), yard.servers(), [])])
            self.agrees(yard)

    def test_works_of_0(self):
        yard = Yard({"a": 1, "b": 2, "c": 1}, {"x": (0, ["a"]), "y": (4, ["b"]), "z": (0, ["b"]), "w": (0, ["b", "c"])})
        self.assertEqual(levels(yard), [(Ratio(2), ["b"], ["y", "z"]), (Ratio(0), ["a", "c"], ["w", "x"])])
        self.agrees(yard)
        self.agrees(yard.with_work("y", 0))

    def test_servers_with_nothing(self):
        yard = Yard({"a": 1, "b": 1, "c": 1}, {"x": (5, ["b"])})
        self.assertEqual(levels(yard), [(Ratio(5), ["b"], ["x"]), (Ratio(0), ["a", "c"], [])])

    def test_tasks_with_one_place(self):
        yard = Yard({"a": 2, "b": 3}, {"w": (1, ["a"]), "x": (Ratio(1, 2), ["a"]), "y": (9, ["b"])})
        self.assertEqual(best_loads(yard), {"a": Ratio(3, 4), "b": Ratio(3)})
        self.assertEqual(levels(yard), [(Ratio(3), ["b"], ["y"]), (Ratio(3, 4), ["a"], ["w", "x"])])

    def test_sets_that_are_all_of_one_density(self):
        yard = Yard({"a": 1, "b": 2, "c": 1}, {"x": (3, ["a"]), "y": (6, ["b"]), "z": (3, ["b", "c"])})
        self.assertEqual(levels(yard), [(Ratio(3), ["a", "b", "c"], ["x", "y", "z"])])

    def test_a_level_for_each_server(self):
        servers = "abcdefghijkl"
        tasks = {"t" + server: (100 - 7 * at, [server]) for at, server in enumerate(servers)}
        yard = Yard({server: 1 for server in servers}, {**tasks, "z": (3, list(servers))})
        found = levels(yard)
        self.assertEqual([servers for _, servers, _ in found], [[server] for server in servers])
        self.assertEqual([load for load, _, _ in found], [Ratio(100 - 7 * at) for at in range(11)] + [Ratio(26)])
        self.assertEqual(found[-1][2], ["tl", "z"])
        self.keeps_the_rule(best_plan(yard))

    def test_beside_a_search_through_all_sets(self):
        chance = random.Random(61)
        many = {}
        for _ in range(250):
            yard = drawn_yard(chance)
            self.agrees(yard)
            many[len(levels(yard))] = True
        self.assertGreater(len(many), 3)

    def test_beside_a_search_in_yards_of_equal_works(self):
        chance = random.Random(62)
        for _ in range(120):
            servers = "abcde"[:chance.randint(1, 5)]
            yard = Yard({server: chance.choice([1, 1, 2]) for server in servers},
                        {task: (chance.choice([1, 1, 0, 2]), chance.sample(servers, min(len(servers), 2)))
                         for task in "uvwxyz"[:chance.randint(0, 6)]})
            self.agrees(yard)

    def test_the_first_level_has_the_least_top(self):
        chance = random.Random(63)
        for _ in range(80):
            yard = drawn_yard(chance)
            load, servers, _ = levels(yard)[0]
            self.assertEqual((least_top(yard), top_set(yard)), (load, servers))
            self.assertIs(is_within(best_plan(yard), best_loads(yard)), True)

    def test_yards_that_were_changed(self):
        for yard in [example(), *changed_yards(example())]:
            self.agrees(yard)
        yard = example()
        for change in CHANGES:
            before = best_loads(yard)
            later = change(yard)
            self.agrees(later)
            self.assertEqual(best_loads(yard), before)
            yard = later

    def test_what_is_returned_is_new_each_time(self):
        yard = example()
        best_loads(yard).clear()
        found = levels(yard)
        found[0][1].clear()
        found[0][2].clear()
        found.clear()
        self.agrees(yard)
        self.assertTrue(best_plan(yard) == best_plan(example()))

    def test_values_that_are_no_yards(self):
        for value in NO_YARDS:
            for call in (best_plan, best_loads, levels):
                self.fails(InvalidYard, {"value": value}, call, value)
                self.fails(InvalidYard, {"value": value}, call, yard=value)


class OneForAllTest(BestCase):

    def test_never_dearer_than_drawn_plans(self):
        chance = random.Random(64)
        for _ in range(120):
            yard = drawn_yard(chance)
            best = best_plan(yard)
            for plan in (drawn_plan(yard, chance), drawn_plan(yard, chance), Plan.first(yard), Plan.shared(yard)):
                self.assertIs(best.never_dearer(plan), True)
                self.assertIs(is_never_dearer(best, plan), True)
                self.assertIs(plan.never_dearer(best), is_best(plan))
                cost = Cost(*[(chance.randint(-5, 5), chance.randint(-20, 20)) for _ in range(3)])
                self.assertLessEqual(cost.of_plan(best).compare(cost.of_plan(plan)), 0)


class RuleTest(BestCase):

    def test_the_documents_example(self):
        self.assertIs(is_best(example_plan()), False)
        self.assertEqual(first_fault(example_plan()), Move("y", "b", "c"))
        self.assertEqual(first_fault(plan=example_plan()), Move("y", "b", "c"))
        later = Plan(example(), {("x", "a"): 3, ("x", "b"): 3, ("y", "c"): 2, ("z", "c"): 1})
        self.assertIs(is_best(plan=later), True)
        self.assertIsNone(first_fault(later))

    def test_in_order(self):
        # The loads are 9, 7, 2 and 1.
        yard = Yard({"a": 1, "b": 1, "c": 1, "d": 1}, {"x": (9, ["a", "b"]), "y": (10, ["b", "c", "d"])})
        plan = Plan(yard, {("x", "a"): 9, ("y", "b"): 7, ("y", "c"): 2, ("y", "d"): 1})
        self.assertEqual(first_fault(plan), Move("x", "a", "b"))
        plan = Plan(yard, {("x", "a"): 2, ("x", "b"): 7, ("y", "d"): 10})
        self.assertEqual(first_fault(plan), Move("x", "b", "a"))
        plan = Plan(yard, {("x", "a"): 7, ("x", "b"): 2, ("y", "b"): 5, ("y", "c"): 4, ("y", "d"): 1})
        self.assertEqual(first_fault(plan), Move("y", "b", "c"))
        plan = Plan(yard, {("x", "a"): 5, ("x", "b"): 4, ("y", "b"): 1, ("y", "c"): 8, ("y", "d"): 1})
        self.assertEqual(first_fault(plan), Move("y", "b", "d"))
        plan = Plan(yard, {("x", "a"): 5, ("x", "b"): 4, ("y", "c"): 5, ("y", "d"): 5})
        self.assertEqual(first_fault(plan), Move("x", "a", "b"))

    def test_a_lesser_load_that_is_no_place_of_the_task_is_no_fault(self):
        yard = Yard({"a": 1, "b": 1}, {"x": (9, ["a"]), "y": (1, ["a", "b"])})
        self.assertIsNone(first_fault(Plan(yard, {("x", "a"): 9, ("y", "b"): 1})))
        self.assertEqual(first_fault(Plan.first(yard)), Move("y", "a", "b"))

    def test_a_little_too_much(self):
        yard = Yard({"a": 1, "b": 2}, {"x": (6, ["a", "b"])})
        self.assertIs(is_best(Plan(yard, {("x", "a"): 2, ("x", "b"): 4})), True)
        little = Ratio(1, LONG)
        self.assertEqual(first_fault(Plan(yard, {("x", "a"): 2 + little, ("x", "b"): 4 - little})), Move("x", "a", "b"))
        self.assertEqual(first_fault(Plan(yard, {("x", "a"): 2 - little, ("x", "b"): 4 + little})), Move("x", "b", "a"))

    def test_without_tasks_and_works_of_0(self):
        self.keeps_the_rule(Plan(Yard({"a": 1, "b": 2}), {}))
        self.keeps_the_rule(Plan(Yard({"a": 1, "b": 2}, {"x": (0, ["a", "b"]), "y": (3, ["a"])}), {("y", "a"): 3}))

    def test_drawn_plans(self):
        chance = random.Random(65)
        for _ in range(200):
            yard = drawn_yard(chance)
            plan = drawn_plan(yard, chance)
            wanted = faults(plan)
            found = first_fault(plan)
            self.assertIs(is_best(plan), not wanted)
            if wanted:
                self.assertIs(found.__class__, Move)
                self.assertEqual((found.task, found.start, found.goal), min(wanted))
            else:
                self.assertIsNone(found)
            self.assertIs(is_best(plan), loads_of(plan) == searched_loads(yard))

    def test_values_that_are_no_plans(self):
        for value in NO_PLANS:
            for call in (is_best, first_fault):
                self.fails(InvalidPlan, {"value": value}, call, value)
                self.fails(InvalidPlan, {"value": value}, call, plan=value)


class GreatTest(BestCase):

    def test_great_yards(self):
        for yard in great_yards(random.Random(66)):
            plan = in_time(self, best_plan, yard)
            self.assertIs(in_time(self, is_best, plan), True)
            self.assertIsNone(in_time(self, first_fault, plan))
            self.assertEqual(in_time(self, best_loads, yard), plan.loads())
            servers, left = [], yard
            for load, members, tasks in in_time(self, levels, yard):
                for server in members:
                    self.assertEqual(plan.load(server), load)
                servers = servers + members
                for task in tasks:
                    left = left - task
                self.assertEqual(load, ratio(sum(exact(yard.work(task)) for task in tasks)
                                             / sum(yard.speed(server) for server in members)))
            self.assertEqual((sorted(servers), left.tasks()), (yard.servers(), []))
            shared = Plan.shared(yard)
            self.assertIs(in_time(self, plan.never_dearer, shared), True)
            self.assertEqual(is_best(shared), faults(shared) == [])


if __name__ == "__main__":
    unittest.main()
