"""Stage 3 [31]: plans as they are made, and what they tell."""

import itertools
import operator
import random
import unittest
from fractions import Fraction

from evenloads.errors import InvalidAmounts, InvalidYard, UnknownServer, UnknownTask, WrongSum
from evenloads.plans import Plan
from evenloads.ratios import Ratio
from evenloads.yards import Yard
from helpers import NO_AMOUNTS, NO_SERVERS, NO_TASKS, NO_YARDS, STRANGE, Case, example, example_plan
from oracles import drawn_plan, drawn_yard, exact, great_yards, in_time, loads_of

LONG = 10 ** 30 - 1
AMOUNTS = {("x", "a"): 4, ("x", "b"): 2, ("y", "b"): 2, ("z", "c"): 1}
NO_DICTS = STRANGE + [0, 1, "", "a", [], [("x", "a")], (), ("x", "a"), list(AMOUNTS.items()), Ratio(1), example(),
                      example_plan()]


class MakingTest(Case):

    def test_the_documents_example(self):
        plan = Plan(example(), AMOUNTS)
        self.assertEqual([str(load) for load in plan.loads().values()], ["4", "4", "1/2"])
        self.assertTrue(plan == Plan(yard=example(), amounts=AMOUNTS))
        self.assertTrue(plan.yard == example())

    def test_integers_and_ratios_amounts_of_0_and_places_that_are_left_out(self):
        wanted = {("x", "a"): Ratio(4), ("x", "b"): Ratio(2), ("y", "b"): Ratio(2), ("z", "c"): Ratio(1)}
        for amounts in (AMOUNTS, wanted, {**AMOUNTS, ("y", "c"): 0}, {**AMOUNTS, ("y", "c"): Ratio(0, 5)},
                        {("x", "a"): Ratio(8, 2), ("x", "b"): 2, ("y", "b"): Ratio(2), ("z", "c"): 1}):
            plan = Plan(example(), amounts)
            self.assertEqual(plan.amounts(), wanted)
            for amount in plan.amounts().values():
                self.assertIs(amount.__class__, Ratio)

    def test_fractions(self):
        plan = Plan(example(), {("x", "a"): Ratio(1, 3), ("x", "b"): Ratio(17, 3), ("y", "c"): 2, ("z", "c"): 1})
        self.same_ratio(plan["x", "a"], 1, 3)
        self.same_ratio(plan.load("b"), 17, 3)
        self.same_ratio(plan.load("c"), 3, 2)
        self.same_ratio(plan.top, 17, 3)

    def test_the_order_of_the_keys_has_no_effect(self):
        for items in itertools.permutations(AMOUNTS.items()):
            plan = Plan(example(), dict(items))
            self.assertTrue(plan == Plan(example(), AMOUNTS))
            self.assertEqual(plan.ties(), sorted(AMOUNTS))
            self.assertEqual(list(plan.amounts()), sorted(AMOUNTS))
            self.assertEqual(list(plan.loads()), ["a", "b", "c"])

    def test_without_tasks(self):
        plan = Plan(Yard({"b": 3, "a": 2}), {})
        self.assertEqual((plan.amounts(), plan.ties()), ({}, []))
        self.assertEqual(plan.loads(), {"a": Ratio(0), "b": Ratio(0)})
        self.same_ratio(plan.top, 0)
        for other in (Plan.first(Yard({"b": 3, "a": 2})), Plan.shared(Yard({"b": 3, "a": 2}))):
            self.assertTrue(plan == other)

    def test_works_of_0(self):
        yard = Yard({"a": 1, "b": 2}, {"x": (0, ["a", "b"]), "y": (Ratio(0), ["b"])})
        for plan in (Plan(yard, {}), Plan(yard, {("x", "a"): 0}), Plan.first(yard), Plan.shared(yard)):
            self.assertEqual((plan.amounts(), plan.ties()), ({}, []))
            self.same_ratio(plan["x", "b"], 0)
            self.same_ratio(plan.top, 0)
        self.fails(WrongSum, {"name": "x"}, Plan, yard, {("x", "b"): 1})
        self.fails(WrongSum, {"name": "y"}, Plan, yard, {("y", "b"): Ratio(1, LONG)})

    def test_a_task_and_a_server_of_the_same_name(self):
        yard = Yard({"a": 1, "b": 2}, {"a": (4, ["a", "b"]), "b": (2, ["a"])})
        plan = Plan(yard, {("a", "b"): 4, ("b", "a"): 2})
        self.same_ratio(plan["a", "b"], 4)
        self.same_ratio(plan["b", "a"], 2)
        self.same_ratio(plan["a", "a"], 0)
        self.assertEqual(plan.loads(), {"a": Ratio(2), "b": Ratio(2)})

    def test_long_numbers(self):
        yard = Yard({"a": 7, "b": 1000}, {"x": (LONG, ["a", "b"]), "y": (Ratio(1, LONG), ["b"])})
        plan = Plan(yard, {("x", "a"): Ratio(1, 10 ** 29), ("x", "b"): LONG - Ratio(1, 10 ** 29),
                           ("y", "b"): Ratio(1, LONG)})
        for server, load in loads_of(plan).items():
            self.same_ratio(plan.load(server), load.numerator, load.denominator)

    def test_first(self):
        plan = Plan.first(example())
        self.assertEqual(plan.amounts(), {("x", "a"): Ratio(6), ("y", "b"): Ratio(2), ("z", "c"): Ratio(1)})
        self.assertTrue(Plan.first(yard=example()) == plan)
        self.assertTrue(example_plan().first(example()) == plan)

    def test_shared(self):
        plan = Plan.shared(Yard({"a": 1, "b": 1, "c": 2}, {"x": (6, ["a", "b"]), "y": (1, ["c", "b", "a"])}))
        self.assertEqual(plan.amounts(), {("x", "a"): Ratio(3), ("x", "b"): Ratio(3), ("y", "a"): Ratio(1, 3),
                                          ("y", "b"): Ratio(1, 3), ("y", "c"): Ratio(1, 3)})
        self.assertTrue(Plan.shared(yard=example()) == Plan.shared(example()))


class ErrorsTest(Case):

    def test_values_that_are_no_yards(self):
        for value in NO_YARDS:
            self.fails(InvalidYard, {"value": value}, Plan, value, {})
            self.fails(InvalidYard, {"value": value}, Plan, value, None)
            self.fails(InvalidYard, {"value": value}, Plan, amounts=7, yard=value)
            self.fails(InvalidYard, {"value": value}, Plan.first, value)
            self.fails(InvalidYard, {"value": value}, Plan.shared, value)
            self.fails(InvalidYard, {"value": value}, Plan.shared, yard=value)

    def test_amounts_that_are_no_dict(self):
        for value in NO_DICTS:
            self.fails(InvalidAmounts, {"value": value}, Plan, example(), value)
            self.fails(InvalidAmounts, {"value": value}, Plan, amounts=value, yard=Yard({"a": 1}))

    def test_keys_that_are_no_tuple_of_a_task_and_one_of_its_places(self):
        keys = [None, True, 0, 1, "", "x", "xa", b"xa", (), ("x",), ("x", "a", "b"), ("x", "a", 1), ("w", "a"),
                ("a", "x"), ("a", "a"), ("X", "a"), ("x", "c"), ("x", "d"), ("z", "a"), ("x", None), ("x", 0),
                ("x", ("a",)), (("x",), "a"), (None, None), (True, "a"), (0, 1), frozenset(["x", "a"]), range(2)]
        for key in keys:
            for value in (0, 1, None):
                for amounts in ({**AMOUNTS, key: value}, {key: value, **AMOUNTS}, {key: value}):
                    self.fails(InvalidAmounts, {"value": amounts}, Plan, example(), amounts)

    def test_values_that_are_no_amounts(self):
        for value in NO_AMOUNTS:
            for key in (*AMOUNTS, ("y", "c")):
                amounts = {**AMOUNTS, key: value}
                self.fails(InvalidAmounts, {"value": amounts}, Plan, example(), amounts)
        amounts = {("x", "a"): 7, ("x", "b"): -1, ("y", "b"): 2, ("z", "c"): 1}
        self.fails(InvalidAmounts, {"value": amounts}, Plan, example(), amounts)

    def test_true_and_false_are_no_amounts_also_where_the_sum_would_fit(self):
        amounts = {("x", "a"): 6, ("y", "b"): 2, ("z", "c"): True}
        self.fails(InvalidAmounts, {"value": amounts}, Plan, example(), amounts)
        amounts = {("x", "a"): 6, ("x", "b"): False, ("y", "b"): 2, ("z", "c"): 1}
        self.fails(InvalidAmounts, {"value": amounts}, Plan, example(), amounts)

    def test_sums_that_are_too_great_or_too_small(self):
        for key, name in [(("x", "a"), "x"), (("y", "b"), "y"), (("y", "c"), "y"), (("z", "c"), "z")]:
            for more in (1, Ratio(1, LONG), LONG):
                amounts = {**AMOUNTS, key: AMOUNTS.get(key, 0) + more}
                self.fails(WrongSum, {"name": name}, Plan, example(), amounts)
        for key, amount in AMOUNTS.items():
            for less in (0, amount - Ratio(1, LONG), Ratio(amount, 2)):
                self.fails(WrongSum, {"name": key[0]}, Plan, example(), {**AMOUNTS, key: less})
            self.fails(WrongSum, {"name": key[0]}, Plan, example(),
                       {other: AMOUNTS[other] for other in AMOUNTS if other != key})

    def test_of_several_wrong_sums_the_least_name_is_told(self):
        self.fails(WrongSum, {"name": "x"}, Plan, example(), {})
        self.fails(WrongSum, {"name": "y"}, Plan, example(), {("z", "c"): 2, ("y", "c"): 3, ("x", "a"): 6})
        self.fails(WrongSum, {"name": "y"}, Plan, example(), {("x", "b"): 6})
        self.fails(WrongSum, {"name": "x"}, Plan, example(), {("z", "c"): 9, ("y", "b"): 1, ("x", "b"): 7})

    def test_wrong_amounts_are_told_ahead_of_wrong_sums(self):
        amounts = {("x", "a"): 100, ("z", "a"): 1}
        self.fails(InvalidAmounts, {"value": amounts}, Plan, example(), amounts)


class ReadingTest(Case):

    def test_amounts_at_places_and_at_other_servers(self):
        plan = example_plan()
        for task in "xyz":
            for server in "abc":
                self.same_ratio(plan[task, server], AMOUNTS.get((task, server), 0))
                self.same_ratio(plan[(task, server)], AMOUNTS.get((task, server), 0))

    def test_subscripts_that_are_no_tuple_of_two(self):
        plan = example_plan()
        for value in STRANGE + [0, "", "x", "xa", [], ["x", "a"], (), ("x",), ("x", "a", "b"), ("x", "a", None), {},
                                {"x": "a"}, Ratio(1), slice(1, 2), slice("x", "a")]:
            self.fails(InvalidAmounts, {"value": value}, operator.getitem, plan, value)

    def test_unknown_tasks_then_unknown_servers(self):
        plan = example_plan()
        for value in NO_TASKS:
            for server in ("a", "q", None):
                self.fails(UnknownTask, {"value": value}, operator.getitem, plan, (value, server))
        for value in NO_SERVERS:
            self.fails(UnknownServer, {"value": value}, operator.getitem, plan, ("x", value))
        self.fails(UnknownTask, {"value": "a"}, operator.getitem, plan, ("a", "x"))

    def test_load(self):
        plan = example_plan()
        for server, top, bottom in [("a", 4, 1), ("b", 4, 1), ("c", 1, 2)]:
            self.same_ratio(plan.load(server), top, bottom)
            self.same_ratio(plan.load(server=server), top, bottom)
            self.same_ratio(plan.loads()[server], top, bottom)
        for value in NO_SERVERS:
            self.fails(UnknownServer, {"value": value}, plan.load, value)

    def test_top(self):
        self.same_ratio(example_plan().top, 4)
        self.same_ratio(Plan.first(example()).top, 6)
        self.same_ratio(Plan(Yard({"a": 3, "b": 1}, {"x": (7, ["a"]), "y": (2, ["b"])}),
                             {("x", "a"): 7, ("y", "b"): 2}).top, 7, 3)

    def test_is_not_iterated_over(self):
        for call in (list, tuple, iter, lambda plan: "x" in plan, lambda plan: [*plan]):
            with self.assertRaises(TypeError):
                call(example_plan())

    def test_properties_are_not_assigned(self):
        for word in ("yard", "top"):
            with self.assertRaises(AttributeError):
                setattr(example_plan(), word, 1)

    def test_drawn_plans(self):
        chance = random.Random(31)
        for _ in range(150):
            yard = drawn_yard(chance)
            plan = drawn_plan(yard, chance)
            wanted = loads_of(plan)
            self.assertEqual({server: exact(load) for server, load in plan.loads().items()}, wanted)
            self.assertEqual(list(plan.loads()), yard.servers())
            self.assertEqual(exact(plan.top), max(wanted.values()))
            self.assertEqual(plan.ties(), sorted(plan.amounts()))
            for task in yard.tasks():
                amounts = [exact(plan[task, server]) for server in yard.servers()]
                self.assertEqual(sum(amounts, Fraction(0)), exact(yard.work(task)))
                for server in yard.servers():
                    self.assertEqual((task, server) in plan.ties(), plan[task, server].top > 0)
            self.assertTrue(Plan(yard, plan.amounts()) == plan)
            first, shared = Plan.first(yard), Plan.shared(yard)
            for task in yard.tasks():
                places = yard.places(task)
                for place in places:
                    self.assertEqual(first[task, place], yard.work(task) if place == min(places) else Ratio(0))
                    self.assertEqual(shared[task, place], yard.work(task).over(len(places)))


class EqualTest(Case):

    def test_equal_plans_from_other_dicts(self):
        plan = example_plan()
        for amounts in (AMOUNTS, {**AMOUNTS, ("y", "c"): 0}, dict(reversed(AMOUNTS.items())),
                        {key: Ratio(amount) for key, amount in AMOUNTS.items()}):
            self.assertIs(plan == Plan(example(), amounts), True)
            self.assertIs(plan != Plan(example(), amounts), False)

    def test_other_amounts(self):
        for amounts in ({**AMOUNTS, ("x", "a"): 2, ("x", "b"): 4}, {**AMOUNTS, ("y", "b"): 0, ("y", "c"): 2},
                        {**AMOUNTS, ("x", "a"): Ratio(11, 3), ("x", "b"): Ratio(7, 3)}):
            self.assertIs(example_plan() == Plan(example(), amounts), False)
            self.assertIs(example_plan() != Plan(example(), amounts), True)

    def test_unlike_yards(self):
        for yard in (example().with_place("x", "c"), example().with_speed("a", 2), example() + ("w", 0, ["a"]),
                     example().with_server("d", 1)):
            self.assertIs(Plan(yard, AMOUNTS) == example_plan(), False)
            self.assertIs(example_plan() == Plan(yard, AMOUNTS), False)

    def test_other_values(self):
        for value in STRANGE + [0, "", AMOUNTS, example(), Ratio(1), list(AMOUNTS), Plan]:
            self.assertIs(example_plan() == value, False)
            self.assertIs(value == example_plan(), False)
            self.assertIs(example_plan() != value, True)


class CopiesTest(Case):

    def test_the_dict_that_was_passed_changed_later(self):
        amounts = {**AMOUNTS, ("y", "c"): 0}
        plan = Plan(example(), amounts)
        self.assertEqual(amounts, {**AMOUNTS, ("y", "c"): 0})
        amounts["x", "a"] = 6
        amounts["x", "b"] = 0
        del amounts["z", "c"]
        self.assertTrue(plan == example_plan())
        self.assertEqual(plan.loads(), example_plan().loads())

    def test_what_is_returned_changed_later(self):
        plan = example_plan()
        plan.amounts()["x", "a"] = Ratio(9)
        plan.amounts().clear()
        plan.ties().clear()
        plan.loads().clear()
        plan.loads()["a"] = Ratio(9)
        self.assertTrue(plan == example_plan())
        self.assertEqual(plan.ties(), list(AMOUNTS))
        self.assertEqual(plan.loads(), {"a": Ratio(4), "b": Ratio(4), "c": Ratio(1, 2)})
        for one, other in [(plan.amounts(), plan.amounts()), (plan.ties(), plan.ties()), (plan.loads(), plan.loads())]:
            self.assertIsNot(one, other)
        self.assertIs(plan.ties().__class__, list)
        self.assertIs(plan.amounts().__class__, dict)
        self.assertIs(plan.loads().__class__, dict)


class GreatTest(Case):

    def test_great_yards(self):
        for yard in great_yards(random.Random(3)):
            for plan in (in_time(self, Plan.first, yard), in_time(self, Plan.shared, yard)):
                wanted = loads_of(plan)
                self.assertEqual({server: exact(load) for server, load in plan.loads().items()}, wanted)
                self.assertEqual(exact(plan.top), max(wanted.values()))
                self.assertTrue(in_time(self, Plan, yard, plan.amounts()) == plan)


if __name__ == "__main__":
    unittest.main()
