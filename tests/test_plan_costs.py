"""Stage 3 [32], [34]: the hinge at a bound, plans that are never dearer, and mixes."""

import itertools
import random
import unittest
from fractions import Fraction

from evenloads.costs import Cost
from evenloads.errors import InvalidNumber, InvalidPlan, InvalidShare, OtherYard
from evenloads.plans import Plan
from evenloads.ratios import Ratio
from evenloads.yards import Yard
from helpers import BELOW, NO_NUMBERS, NO_PLANS, Case, example, example_plan
from oracles import drawn_plan, drawn_yard, exact, great_yards, in_time, is_never_dearer, loads_of, ratio

LONG = 10 ** 30 - 1


def later_plan():
    """The document's plan that is never dearer than the other one."""
    return Plan(example(), {("x", "a"): 3, ("x", "b"): 3, ("y", "c"): 2, ("z", "c"): 1})


def other_yards():
    """Yards that are not equal to the document's example, each with a plan."""
    yards = [example().with_speed("a", 2), example().with_place("x", "c"), example() + ("w", 0, ["a"]),
             example() - "z", example().with_work("z", 2), example().with_server("d", 1), Yard({"a": 1})]
    return [Plan.first(yard) for yard in yards]


def thirds():
    """Two plans of one yard each of which is dearer than the other for some cost: loads 6 2 1 and 5 4 0."""
    yard = Yard({"a": 1, "b": 1, "c": 1}, {"x": (9, ["a", "b", "c"])})
    return (Plan(yard, {("x", "a"): 6, ("x", "b"): 2, ("x", "c"): 1}),
            Plan(yard, {("x", "a"): 5, ("x", "b"): 4, ("x", "c"): 0}))


class AboveTest(Case):

    def test_bounds_below_0_at_loads_between_and_above_them(self):
        # The loads are 4, 4 and, at the server with the speed 2, 1/2.
        plan = example_plan()
        for bound, top, bottom in [(-1, 13, 1), (Ratio(-1, 2), 11, 1), (0, 9, 1), (Ratio(1, 4), 8, 1),
                                   (Ratio(1, 2), 7, 1), (1, 6, 1), (3, 2, 1), (Ratio(7, 2), 1, 1), (4, 0, 1),
                                   (Ratio(9, 2), 0, 1), (LONG, 0, 1)]:
            self.same_ratio(plan.above(bound), top, bottom)
            self.same_ratio(plan.above(bound=bound), top, bottom)
            self.same_ratio(plan.above(Ratio.of(bound)), top, bottom)

    def test_values_that_are_no_numbers(self):
        for value in NO_NUMBERS:
            self.fails(InvalidNumber, {"value": value}, example_plan().above, value)

    def test_drawn_plans(self):
        chance = random.Random(32)
        for _ in range(60):
            plan = drawn_plan(drawn_yard(chance), chance)
            loads = loads_of(plan)
            bounds = [*loads.values(), Fraction(chance.randint(-9, 40), chance.randint(1, 5)), Fraction(0)]
            for bound in bounds:
                wanted = sum(plan.yard.speed(server) * max(load - bound, 0) for server, load in loads.items())
                self.assertEqual(exact(plan.above(ratio(bound))), wanted)


class LongNumbersTest(Case):

    def plans(self):
        """Plans whose numbers have unlike bottoms of many digits."""
        chance = random.Random(35)
        for yard in great_yards(chance)[4:]:
            yield Plan.first(yard), Plan.shared(yard), drawn_plan(yard, chance)

    def test_sums_and_comparisons_are_exact(self):
        for first, shared, drawn in self.plans():
            for one, other in itertools.permutations([first, shared, drawn], 2):
                self.assertIs(one.never_dearer(other), is_never_dearer(one, other))
                found = one.parting(other)
                loads = sorted({*loads_of(one).values(), *loads_of(other).values()})
                dearer = [load for load in loads if self.cost(one, load) > self.cost(other, load)]
                self.assertEqual(found, ratio(dearer[0]) if dearer else None)
                self.assertFalse(one == other)
            for bound in [*shared.loads().values(), Ratio(1, LONG), Ratio(LONG, LONG - 2), 0, -LONG]:
                self.assertEqual(exact(drawn.above(bound)), self.cost(drawn, exact(bound)))
                self.assertEqual(exact(Cost.hinge(bound).of_plan(drawn)), self.cost(drawn, exact(bound)))

    def test_mixes_are_exact(self):
        share = Fraction(LONG - 3, LONG)
        for first, shared, drawn in self.plans():
            mixed = shared.mix(drawn, ratio(share))
            for task in mixed.yard.tasks():
                for place in mixed.yard.places(task):
                    self.assertEqual(exact(mixed[task, place]),
                                     share * exact(shared[task, place]) + (1 - share) * exact(drawn[task, place]))
            self.assertEqual({server: exact(load) for server, load in mixed.loads().items()}, loads_of(mixed))
            self.assertTrue(shared.mix(shared, ratio(share)) == shared)
            self.assertFalse(mixed == shared or mixed == drawn or mixed == first)

    def cost(self, plan, bound):
        return sum(plan.yard.speed(server) * max(load - bound, 0) for server, load in loads_of(plan).items())


class NeverDearerTest(Case):

    def test_the_documents_example(self):
        plan, later = example_plan(), later_plan()
        self.assertIs(later.never_dearer(plan), True)
        self.assertIs(plan.never_dearer(later), False)
        self.same_ratio(plan.parting(later), 3, 2)
        self.assertIsNone(later.parting(plan))
        self.assertIs(later.never_dearer(plan=plan), True)
        self.same_ratio(plan.parting(plan=later), 3, 2)

    def test_a_plan_and_itself(self):
        for plan in (example_plan(), later_plan(), Plan(Yard({"a": 1}), {})):
            self.assertIs(plan.never_dearer(plan), True)
            self.assertIsNone(plan.parting(plan))

    def test_plans_with_the_same_loads(self):
        yard = Yard({"a": 1, "b": 1}, {"x": (2, ["a", "b"]), "y": (2, ["a", "b"])})
        one = Plan(yard, {("x", "a"): 2, ("y", "b"): 2})
        for other in (Plan(yard, {("x", "b"): 2, ("y", "a"): 2}), Plan.shared(yard)):
            self.assertIs(one.never_dearer(other), True)
            self.assertIs(other.never_dearer(one), True)
            self.assertIsNone(one.parting(other))

    def test_loads_that_have_changed_places(self):
        yard = Yard({"a": 1, "b": 1}, {"x": (5, ["a", "b"])})
        one, other = Plan(yard, {("x", "a"): 3, ("x", "b"): 2}), Plan(yard, {("x", "a"): 2, ("x", "b"): 3})
        self.assertIs(one.never_dearer(other) and other.never_dearer(one), True)

    def test_plans_each_of_which_is_dearer_for_some_cost(self):
        one, other = thirds()
        self.assertIs(one.never_dearer(other), False)
        self.assertIs(other.never_dearer(one), False)
        self.same_ratio(one.parting(other), 4)
        self.same_ratio(other.parting(one), 1)

    def test_parting_is_the_least_load_of_either_plan(self):
        yard = Yard({"a": 1, "b": 1}, {"x": (10, ["a", "b"])})
        one, other = Plan(yard, {("x", "a"): 8, ("x", "b"): 2}), Plan(yard, {("x", "a"): 6, ("x", "b"): 4})
        # The first one is dearer above 2, and the other one's load 4 is the least one there.
        self.same_ratio(one.parting(other), 4)
        self.assertIsNone(other.parting(one))
        faster = Yard({"a": 3, "b": 1}, {"x": (6, ["a", "b"])})
        one, other = Plan(faster, {("x", "b"): 6}), Plan(faster, {("x", "a"): 6})
        self.same_ratio(one.parting(other), 2)
        self.assertIsNone(other.parting(one))

    def test_values_that_are_no_plans(self):
        for value in NO_PLANS:
            self.fails(InvalidPlan, {"value": value}, example_plan().never_dearer, value)
            self.fails(InvalidPlan, {"value": value}, example_plan().parting, value)

    def test_plans_of_other_yards(self):
        plan = example_plan()
        for other in other_yards():
            for one, two in [(plan, other), (other, plan)]:
                self.fails(OtherYard, {"one": one.yard, "other": two.yard}, one.never_dearer, two)
                self.fails(OtherYard, {"one": one.yard, "other": two.yard}, one.parting, two)

    def test_drawn_plans(self):
        chance = random.Random(33)
        told = []
        for _ in range(200):
            yard = drawn_yard(chance)
            one, other = drawn_plan(yard, chance), drawn_plan(yard, chance)
            for plan, second in [(one, other), (other, one)]:
                wanted = is_never_dearer(plan, second)
                self.assertIs(plan.never_dearer(second), wanted)
                loads = sorted({*loads_of(plan).values(), *loads_of(second).values()})
                dearer = [load for load in loads if self.cost(plan, load) > self.cost(second, load)]
                found = plan.parting(second)
                self.assertEqual(found, ratio(dearer[0]) if dearer else None)
                self.assertEqual(found is None, wanted)
            told.append((one.never_dearer(other), other.never_dearer(one)))
        for wanted in itertools.product([True, False], repeat=2):
            self.assertGreater(told.count(wanted), 5, wanted)

    def cost(self, plan, bound):
        return sum(plan.yard.speed(server) * max(load - bound, 0) for server, load in loads_of(plan).items())

    def test_great_yards(self):
        for yard in great_yards(random.Random(4)):
            first, shared = Plan.first(yard), Plan.shared(yard)
            for one, other in [(first, shared), (shared, first)]:
                self.assertIs(in_time(self, one.never_dearer, other), is_never_dearer(one, other))


class MixTest(Case):

    def test_shares_0_1_and_between(self):
        plan, later = example_plan(), later_plan()
        self.assertTrue(plan.mix(later, 0) == later)
        self.assertTrue(plan.mix(later, Ratio(0)) == later)
        self.assertTrue(plan.mix(later, 1) == plan)
        self.assertTrue(plan.mix(plan=later, share=Ratio(1)) == plan)
        mixed = plan.mix(later, Ratio(1, 4))
        self.assertEqual(mixed.amounts(), {("x", "a"): Ratio(13, 4), ("x", "b"): Ratio(11, 4), ("y", "b"): Ratio(1, 2),
                                           ("y", "c"): Ratio(3, 2), ("z", "c"): Ratio(1)})
        self.assertTrue(later.mix(plan, Ratio(3, 4)) == mixed)
        self.assertTrue(plan.mix(plan, Ratio(1, 3)) == plan)
        self.assertTrue(plan == example_plan() and later == later_plan())

    def test_shares_of_many_digits(self):
        mixed = example_plan().mix(later_plan(), Ratio(1, LONG))
        self.same_ratio(mixed["y", "b"], 2, LONG)
        self.same_ratio(mixed["y", "c"], 2 * LONG - 2, LONG)

    def test_values_that_are_no_shares(self):
        for value in NO_NUMBERS + BELOW + [2, LONG, Ratio(3, 2), Ratio(LONG, LONG - 1)]:
            self.fails(InvalidShare, {"value": value}, example_plan().mix, later_plan(), value)
            self.fails(InvalidShare, {"value": value}, example_plan().mix, Plan(Yard({"a": 1}), {}), value)

    def test_values_that_are_no_plans(self):
        for value in NO_PLANS:
            for share in (Ratio(1, 2), 2, None):
                self.fails(InvalidPlan, {"value": value}, example_plan().mix, value, share)

    def test_plans_of_other_yards(self):
        plan = example_plan()
        for other in other_yards():
            for share in (0, Ratio(1, 2), 1):
                self.fails(OtherYard, {"one": plan.yard, "other": other.yard}, plan.mix, other, share)
                self.fails(OtherYard, {"one": other.yard, "other": plan.yard}, other.mix, plan, share)

    def test_drawn_plans(self):
        chance = random.Random(34)
        for _ in range(80):
            yard = drawn_yard(chance)
            one, other, third = (drawn_plan(yard, chance) for _ in range(3))
            share = Fraction(chance.randint(0, 12), 12)
            mixed = one.mix(other, ratio(share))
            for task in yard.tasks():
                for place in yard.places(task):
                    wanted = share * exact(one[task, place]) + (1 - share) * exact(other[task, place])
                    self.assertEqual(exact(mixed[task, place]), wanted)
            # A mix of two that are never dearer than a third one is not either.
            if one.never_dearer(third) and other.never_dearer(third):
                self.assertIs(mixed.never_dearer(third), True)
            if one.never_dearer(other):
                self.assertIs(mixed.never_dearer(other), True)


if __name__ == "__main__":
    unittest.main()
