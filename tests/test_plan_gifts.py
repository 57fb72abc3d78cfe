"""Stage 3 [33]: gifts that are possible, gifts that are downhill, and plans of the tasks of two yards."""

import itertools
import operator
import random
import unittest

from evenloads.errors import Impossible, InvalidGift, InvalidPlan, OtherServers, TaskTaken, TooMany
from evenloads.moves import Gift, Move
from evenloads.plans import Plan
from evenloads.ratios import Ratio
from evenloads.yards import Yard
from helpers import NO_GIFTS, NO_PLANS, Case, example, example_plan, names
from oracles import drawn_plan, drawn_yard, exact, loads_of

LONG = 10 ** 30 - 1


def move(text):
    """The Move of a text of three letters."""
    return Move(text[0], text[1], text[2])


def gift(amount, text):
    """The Gift of an amount and of the moves of a text."""
    return Gift(amount, *[move(word) for word in text.split()])


def line():
    """Four servers; x may run on all of them, y on b and c, and x has 3 at a and 1 at b, y 2 at b."""
    yard = Yard({"a": 1, "b": 1, "c": 1, "d": 2}, {"x": (4, ["a", "b", "c", "d"]), "y": (2, ["b", "c"]),
                                                   "z": (0, ["a", "d"])})
    return Plan(yard, {("x", "a"): 3, ("x", "b"): 1, ("y", "b"): 2})


class BehindTest(Case):

    def test_one_move(self):
        plan = example_plan() >> Gift.single(1, "y", "b", "c")
        self.assertEqual(plan.amounts(), {("x", "a"): Ratio(4), ("x", "b"): Ratio(2), ("y", "b"): Ratio(1),
                                          ("y", "c"): Ratio(1), ("z", "c"): Ratio(1)})
        self.assertEqual(plan.loads(), {"a": Ratio(4), "b": Ratio(3), "c": Ratio(1)})
        self.assertTrue(plan.yard == example())

    def test_a_gift_that_uses_up_an_amount(self):
        ahead = example_plan()
        for amount in (2, Ratio(2)):
            plan = ahead >> Gift.single(amount, "y", "b", "c")
            self.assertEqual(plan.ties(), [("x", "a"), ("x", "b"), ("y", "c"), ("z", "c")])
            self.same_ratio(plan["y", "b"], 0)
        self.assertTrue(ahead == example_plan())

    def test_several_moves_change_only_the_loads_of_the_start_and_the_goal(self):
        plan = example_plan() >> gift(Ratio(3, 2), "xab ybc")
        self.assertEqual(plan.amounts(), {("x", "a"): Ratio(5, 2), ("x", "b"): Ratio(7, 2), ("y", "b"): Ratio(1, 2),
                                          ("y", "c"): Ratio(3, 2), ("z", "c"): Ratio(1)})
        self.assertEqual(plan.loads(), {"a": Ratio(5, 2), "b": Ratio(4), "c": Ratio(5, 4)})

    def test_and_back(self):
        for words in ("ybc", "xab", "xab ybc"):
            one = gift(Ratio(1, 3), words)
            self.assertTrue(example_plan() >> one >> -one == example_plan())

    def test_the_plan_ahead_of_the_gift_counts(self):
        plan = line()
        # The second move needs what x has at b ahead of the gift, not what the first one brings there.
        self.assertEqual((plan >> gift(1, "xab xbc")).amounts(),
                         {("x", "a"): Ratio(2), ("x", "b"): Ratio(1), ("x", "c"): Ratio(1), ("y", "b"): Ratio(2)})
        self.fails(Impossible, {"position": 1}, operator.rshift, plan, gift(2, "xab xbc"))
        self.fails(Impossible, {"position": 1}, operator.rshift, plan, gift(1, "xac xcd"))
        self.fails(Impossible, {"position": 2}, operator.rshift, plan, gift(1, "xab ybc xcd"))
        self.assertEqual((plan >> gift(1, "xab ybc")).amounts(),
                         {("x", "a"): Ratio(2), ("x", "b"): Ratio(2), ("y", "b"): Ratio(1), ("y", "c"): Ratio(1)})

    def test_long_numbers(self):
        amount = Ratio(1, LONG)
        plan = example_plan() >> Gift.single(amount, "y", "b", "c")
        self.same_ratio(plan["y", "b"], 2 * LONG - 1, LONG)
        self.same_ratio(plan["y", "c"], 1, LONG)

    def test_values_that_are_no_gifts(self):
        for value in NO_GIFTS:
            self.fails(InvalidGift, {"value": value}, operator.rshift, example_plan(), value)

    def test_the_first_position(self):
        plan = example_plan()
        for amount, words, position in [
                (1, "wab", 0), (1, "aab", 0), (1, "xac", 0), (1, "xbd", 0), (1, "zca", 0), (1, "xca", 0),
                (1, "xda", 0), (1, "yab", 0), (5, "xab", 0), (Ratio(4 * LONG + 1, LONG), "xab", 0), (3, "ybc", 0),
                (1, "xab xbc", 1), (3, "xab ybc", 1), (1, "xab wbc", 1), (1, "xab ybd", 1), (2, "xab ybc zcd", 2),
                (5, "xab wbc", 0), (1, "xac ycb", 0), (3, "xab ybc zcd", 1)]:
            self.fails(Impossible, {"position": position}, operator.rshift, plan, gift(amount, words))
            self.assertIs(plan.is_possible(gift(amount, words)), False)
            self.assertIs(plan.is_downhill(gift(amount, words)), False)
        self.assertTrue(plan == example_plan())

    def test_changed_in_place_is_another_object(self):
        plan = kept = example_plan()
        plan >>= Gift.single(2, "y", "b", "c")
        self.same_ratio(plan["y", "c"], 2)
        self.assertTrue(kept == example_plan())

    def test_drawn_gifts(self):
        chance = random.Random(35)
        counts = {}
        for _ in range(300):
            yard = drawn_yard(chance)
            if len(yard) == 0 or len(yard.servers()) == 1:
                continue
            plan, one = drawn_plan(yard, chance), self.drawn(yard, chance)
            wanted = [at for at, step in enumerate(one.moves())
                      if step.goal not in yard.places(step.task)
                      or exact(plan[step.task, step.start]) < exact(one.amount)]
            self.assertIs(plan.is_possible(one), not wanted)
            ahead = loads_of(plan)
            if wanted:
                self.fails(Impossible, {"position": wanted[0]}, operator.rshift, plan, one)
                self.assertIs(plan.is_downhill(one), False)
                continue
            behind = loads_of(plan >> one)
            for server in yard.servers():
                if server not in (one.start, one.goal):
                    self.assertEqual(ahead[server], behind[server])
            downhill = ahead[one.start] > ahead[one.goal] and behind[one.start] >= behind[one.goal]
            self.assertIs(plan.is_downhill(one), downhill)
            if downhill:
                self.assertIs((plan >> one).never_dearer(plan), True)
            counts[downhill] = counts.get(downhill, 0) + 1
        self.assertGreater(min(counts[True], counts[False]), 10)

    def drawn(self, yard, chance):
        """A gift whose moves are drawn, most of them to places of their tasks."""
        servers = chance.sample(yard.servers(), chance.randint(2, min(3, len(yard.servers()))))
        steps = []
        for one, other in zip(servers, servers[1:]):
            fitting = [task for task in yard.tasks() if {one, other} <= set(yard.places(task))]
            steps.append(Move(chance.choice(fitting or yard.tasks()), one, other))
        return Gift(Ratio(chance.randint(1, 6), chance.randint(1, 4)), *steps)


class PossibleTest(Case):

    def test_any_value(self):
        for value in NO_GIFTS:
            self.assertIs(example_plan().is_possible(value), False)
            self.assertIs(example_plan().is_downhill(value), False)

    def test_by_name(self):
        self.assertIs(example_plan().is_possible(gift=Gift.single(2, "y", "b", "c")), True)
        self.assertIs(example_plan().is_downhill(gift=Gift.single(2, "y", "b", "c")), True)

    def test_just_the_amount(self):
        for amount, wanted in [(4, True), (Ratio(4), True), (Ratio(4 * LONG - 1, LONG), True),
                               (Ratio(4 * LONG + 1, LONG), False), (5, False)]:
            self.assertIs(example_plan().is_possible(Gift.single(amount, "x", "a", "b")), wanted)


class DownhillTest(Case):

    def test_loads_that_are_equal_ahead_of_the_gift(self):
        # The loads of a and b are 4.
        for amount in (Ratio(1, LONG), 1, 4):
            one = Gift.single(amount, "x", "a", "b")
            self.assertIs(example_plan().is_possible(one), True)
            self.assertIs(example_plan().is_downhill(one), False)

    def test_loads_that_are_equal_behind_the_gift(self):
        yard = Yard({"a": 1, "b": 2}, {"x": (6, ["a", "b"])})
        plan = Plan(yard, {("x", "a"): 6})
        for amount, wanted in [(1, True), (Ratio(4 * LONG - 1, LONG), True), (4, True),
                               (Ratio(4 * LONG + 1, LONG), False), (5, False), (6, False)]:
            one = Gift.single(amount, "x", "a", "b")
            self.assertIs(plan.is_possible(one), True)
            self.assertIs(plan.is_downhill(one), wanted)

    def test_uphill(self):
        self.assertIs(example_plan().is_possible(Gift.single(1, "y", "b", "c")), True)
        self.assertIs((example_plan() >> Gift.single(2, "y", "b", "c")).is_downhill(Gift.single(1, "y", "c", "b")),
                      False)

    def test_only_the_loads_of_start_and_goal_count(self):
        # Between the start and the goal the chain may lead over a greater or a lesser load.
        yard = Yard({"a": 1, "b": 1, "c": 1}, {"x": (9, ["a", "b"]), "y": (9, ["b", "c"])})
        for x, y in [(3, 8), (8, 8), (8, 1), (8, 9)]:
            plan = Plan(yard, {("x", "a"): x, ("x", "b"): 9 - x, ("y", "b"): y, ("y", "c"): 9 - y})
            wanted = x > 9 - y and x - 1 >= 9 - y + 1
            self.assertIs(plan.is_downhill(gift(1, "xab ybc")), wanted, (x, y))

    def test_impossible_gifts(self):
        yard = Yard({"a": 1, "b": 1}, {"x": (6, ["a"]), "y": (1, ["a", "b"])})
        plan = Plan.first(yard)
        self.assertIs(plan.is_downhill(Gift.single(1, "y", "a", "b")), True)
        self.assertIs(plan.is_downhill(Gift.single(1, "x", "a", "b")), False)
        self.assertIs(plan.is_downhill(Gift.single(2, "y", "a", "b")), False)


class OrTest(Case):

    def test_the_amounts_of_both(self):
        other = Plan(Yard({"c": 2, "b": 1, "a": 1}, {"w": (3, ["a", "c"]), "a": (1, ["b"])}),
                     {("w", "c"): Ratio(5, 2), ("w", "a"): Ratio(1, 2), ("a", "b"): 1})
        for found in (example_plan() | other, other | example_plan()):
            self.assertTrue(found.yard == (example() | other.yard))
            self.assertEqual(found.amounts(), dict(sorted({**example_plan().amounts(), **other.amounts()}.items())))
            self.assertEqual(found.ties(), sorted(found.amounts()))
            self.assertEqual(found.loads(), {"a": Ratio(9, 2), "b": Ratio(5), "c": Ratio(7, 4)})
        self.assertTrue(example_plan() | Plan(example() - "x" - "y" - "z", {}) == example_plan())

    def test_values_that_are_no_plans(self):
        for value in NO_PLANS:
            self.fails(InvalidPlan, {"value": value}, operator.or_, example_plan(), value)

    def test_other_servers(self):
        one = example_plan()
        for yard in (Yard({"a": 1, "b": 1}), Yard({"a": 1, "b": 1, "c": 1}), Yard({"a": 1, "b": 1, "d": 2}),
                     Yard({"a": 1, "b": 1}, {"x": (1, ["a"])}), example().with_speed("b", 3)):
            other = Plan.first(yard)
            self.fails(OtherServers, {"one": one.yard, "other": yard}, operator.or_, one, other)
            self.fails(OtherServers, {"one": yard, "other": one.yard}, operator.or_, other, one)

    def test_tasks_in_both(self):
        one = example_plan()
        self.fails(TaskTaken, {"value": "x"}, operator.or_, one, one)
        self.fails(TaskTaken, {"value": "y"}, operator.or_, one, Plan.first(example() - "x"))
        self.fails(TaskTaken, {"value": "z"}, operator.or_, Plan.first(example() - "x" - "y"), one)

    def test_too_many(self):
        tasks = names("t", 25)
        speeds = {"a": 1, "b": 1}
        one = Plan.first(Yard(speeds, {task: (1, ["a"]) for task in tasks[:13]}))
        other = Plan.shared(Yard(speeds, {task: (1, ["a", "b"]) for task in tasks[13:]}))
        self.fails(TooMany, {"what": "tasks", "limit": 24}, operator.or_, one, other)
        self.fails(TooMany, {"what": "tasks", "limit": 24}, operator.or_, other, one)
        fewer = Plan.first(one.yard - tasks[0])
        self.assertEqual(len((fewer | other).yard), 24)

    def test_drawn_plans(self):
        chance = random.Random(36)
        for _ in range(60):
            yard = drawn_yard(chance)
            tasks = [task for task in yard.tasks() if chance.random() < 0.5]
            one = two = yard
            for task in yard.tasks():
                if task in tasks:
                    two = two - task
                else:
                    one = one - task
            left, right = drawn_plan(one, chance), drawn_plan(two, chance)
            both = left | right
            self.assertTrue(both.yard == yard)
            self.assertEqual(both.amounts(), {**left.amounts(), **right.amounts()})
            for task, server in itertools.product(yard.tasks(), yard.servers()):
                self.assertEqual(both[task, server], (left if task in tasks else right)[task, server])


if __name__ == "__main__":
    unittest.main()
