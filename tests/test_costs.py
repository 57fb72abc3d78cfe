"""Stage 3 [32]: costs, their lines, and the cost of a plan."""

import operator
import random
import unittest

from evenloads.costs import Cost
from evenloads.errors import InvalidLines, InvalidNumber, InvalidPlan
from evenloads.plans import Plan
from evenloads.ratios import Ratio
from evenloads.yards import Yard
from helpers import NO_NUMBERS, NO_PLANS, STRANGE, Case, example, example_plan
from oracles import drawn_plan, drawn_yard, exact, great_yards, in_time, is_never_dearer, loads_of, ratio

LONG = 10 ** 30 - 1
NO_LINES = STRANGE + [0, 1, "", "ab", (), (1,), (1, 2, 3), [1, 2], {}, {1: 2}, Ratio(1), ((1, 2),), Cost((1, 2))]
NO_LINES = NO_LINES + [(value, 1) for value in NO_NUMBERS] + [(Ratio(1), value) for value in NO_NUMBERS]


def drawn_number(chance):
    return chance.choice([0, chance.randint(-9, 9), Ratio(chance.randint(-30, 30), chance.randint(1, 9))])


def drawn_cost(chance, most=4):
    return Cost(*[(drawn_number(chance), drawn_number(chance)) for _ in range(chance.randint(1, most))])


class CallingTest(Case):

    def test_one_line(self):
        for slope, height, load, top, bottom in [(2, 3, 5, 13, 1), (-2, 3, 5, -7, 1), (0, 0, 9, 0, 1),
                                                 (Ratio(1, 2), Ratio(-1, 3), Ratio(1, 5), -7, 30), (0, -1, -4, -1, 1),
                                                 (2, 0, Ratio(-1, 4), -1, 2),
                                                 (LONG, LONG, LONG, LONG * LONG + LONG, 1)]:
            cost = Cost((slope, height))
            self.same_ratio(cost(load), top, bottom)
            self.same_ratio(cost(load=load), top, bottom)
            self.same_ratio(cost(Ratio.of(load)), top, bottom)

    def test_the_greatest_of_several_lines(self):
        cost = Cost((-1, 2), (0, 1), (Ratio(1, 2), -1))
        for load, top, bottom in [(-3, 5, 1), (0, 2, 1), (Ratio(1, 2), 3, 2), (1, 1, 1), (2, 1, 1), (4, 1, 1),
                                  (Ratio(9, 2), 5, 4), (6, 2, 1)]:
            self.same_ratio(cost(load), top, bottom)

    def test_loads_at_which_two_lines_meet(self):
        for lines in ([(1, 0), (-1, 6)], [(-1, 6), (1, 0)], [(-1, 6), (1, 0), (0, 3)], [(1, 0), (1, 0), (-1, 6)]):
            self.same_ratio(Cost(*lines)(3), 3)
        self.same_ratio(Cost((3, 0), (0, 1))(Ratio(1, 3)), 1)

    def test_values_that_are_no_numbers(self):
        for value in NO_NUMBERS:
            self.fails(InvalidNumber, {"value": value}, Cost((1, 2)), value)
            self.fails(InvalidNumber, {"value": value}, Cost((1, 2), (0, 0)), load=value)

    def test_drawn_costs(self):
        chance = random.Random(51)
        for _ in range(200):
            cost, load = drawn_cost(chance), drawn_number(chance)
            wanted = max(exact(slope) * exact(load) + exact(height) for slope, height in cost.lines())
            self.same_ratio(cost(load), wanted.numerator, wanted.denominator)


class LinesTest(Case):

    def test_in_the_sequence_in_which_they_were_passed(self):
        cost = Cost((2, 0), (Ratio(-1, 2), 3), (2, Ratio(0)), (0, -7))
        wanted = [(Ratio(2), Ratio(0)), (Ratio(-1, 2), Ratio(3)), (Ratio(2), Ratio(0)), (Ratio(0), Ratio(-7))]
        self.assertEqual(cost.lines(), wanted)
        self.assertIs(cost.lines().__class__, list)
        for line in cost.lines():
            self.assertIs(line.__class__, tuple)
            self.assertIs(line[0].__class__, Ratio)
            self.assertIs(line[1].__class__, Ratio)

    def test_a_new_list_each_time(self):
        cost = Cost((2, 0), (0, 3))
        cost.lines().clear()
        cost.lines().append((Ratio(1), Ratio(1)))
        self.assertIsNot(cost.lines(), cost.lines())
        self.assertEqual(cost.lines(), [(Ratio(2), Ratio(0)), (Ratio(0), Ratio(3))])
        self.same_ratio(cost(1), 3)

    def test_no_lines(self):
        self.fails(InvalidLines, {"position": None}, Cost)

    def test_lines_that_are_no_tuple_of_two_numbers(self):
        for value in NO_LINES:
            self.fails(InvalidLines, {"position": 0}, Cost, value)
            self.fails(InvalidLines, {"position": 0}, Cost, value, (1, 2), value)
            self.fails(InvalidLines, {"position": 1}, Cost, (1, 2), value)
            self.fails(InvalidLines, {"position": 2}, Cost, (1, 2), (Ratio(1, 2), -3), value, None)

    def test_many_lines(self):
        lines = [(at, -at * at) for at in range(2000)]
        cost = Cost(*lines)
        self.same_ratio(cost(100), 50 * 100 - 50 * 50)
        self.assertEqual(len(cost.lines()), 2000)
        self.fails(InvalidLines, {"position": 1999}, Cost, *lines[:1999], [1, 2])


class OfPlanTest(Case):

    def test_the_documents_example(self):
        self.same_ratio(Cost((2, 0), (0, 3)).of_plan(example_plan()), 22)
        self.same_ratio(Cost((2, 0), (0, 3)).of_plan(plan=example_plan()), 22)

    def test_speeds_above_1(self):
        yard = Yard({"a": 3, "b": 1000}, {"x": (7, ["a"]), "y": (10, ["b"])})
        plan = Plan.first(yard)
        self.same_ratio(Cost((1, 0)).of_plan(plan), 17)
        self.same_ratio(Cost((0, 1)).of_plan(plan), 1003)
        self.same_ratio(Cost((0, Ratio(1, 7)), (1, 0)).of_plan(plan), 7 * 7 + 1000, 7)
        self.same_ratio(Cost((0, -5)).of_plan(plan), -5015)

    def test_without_tasks(self):
        self.same_ratio(Cost((5, Ratio(1, 2))).of_plan(Plan(Yard({"a": 3, "b": 2}), {})), 5, 2)

    def test_values_that_are_no_plans(self):
        for value in NO_PLANS:
            self.fails(InvalidPlan, {"value": value}, Cost((1, 2)).of_plan, value)
            self.fails(InvalidPlan, {"value": value}, Cost((1, 2)).of_plan, plan=value)

    def test_drawn_plans(self):
        chance = random.Random(52)
        for _ in range(80):
            yard = drawn_yard(chance)
            one, other, cost = drawn_plan(yard, chance), drawn_plan(yard, chance), drawn_cost(chance)
            wanted = sum(yard.speed(server) * exact(cost(ratio(load))) for server, load in loads_of(one).items())
            self.assertEqual(exact(cost.of_plan(one)), wanted)
            if is_never_dearer(one, other):
                self.assertLessEqual(wanted, exact(cost.of_plan(other)))

    def test_great_yards(self):
        for yard in great_yards(random.Random(53)):
            plan = Plan.shared(yard)
            found = in_time(self, Cost((1, 0), (LONG, -LONG), (Ratio(-1, LONG), 0)).of_plan, plan)
            self.assertGreaterEqual(found.compare(yard.total), 0)
            self.assertEqual(Cost((1, 0)).of_plan(plan), yard.total)


class HingeTest(Case):

    def test_its_lines(self):
        for bound in (0, 3, -3, Ratio(7, 2), Ratio(-7, 2), LONG):
            for cost in (Cost.hinge(bound), Cost.hinge(bound=bound), Cost((5, 5)).hinge(bound)):
                self.assertIs(cost.__class__, Cost)
                self.assertEqual(cost.lines(), [(Ratio(0), Ratio(0)), (Ratio(1), Ratio(0) - bound)])
                self.same_ratio(cost(bound), 0)
                self.assertEqual(cost(Ratio.of(bound) + 2), Ratio(2))
                self.assertEqual(cost(Ratio.of(bound) - 2), Ratio(0))

    def test_is_what_a_plan_tells_above_the_bound(self):
        plan = example_plan()
        for bound in (-1, 0, Ratio(1, 2), 2, 4, 5):
            self.assertEqual(Cost.hinge(bound).of_plan(plan), plan.above(bound))

    def test_parting_tells_a_hinge_at_which_a_plan_is_dearer(self):
        chance = random.Random(54)
        for _ in range(60):
            yard = drawn_yard(chance)
            one, other = drawn_plan(yard, chance), drawn_plan(yard, chance)
            bound = one.parting(other)
            if bound is not None:
                cost = Cost.hinge(bound)
                self.assertEqual(cost.of_plan(one).compare(cost.of_plan(other)), 1)

    def test_values_that_are_no_numbers(self):
        for value in NO_NUMBERS:
            self.fails(InvalidNumber, {"value": value}, Cost.hinge, value)


class PlusTest(Case):

    def test_each_line_with_each_those_of_the_first_line_first(self):
        found = Cost((1, 2), (3, 4)) + Cost((10, 20), (30, 40), (Ratio(1, 2), 0))
        self.assertIs(found.__class__, Cost)
        self.assertEqual(found.lines(), [
            (Ratio(11), Ratio(22)), (Ratio(31), Ratio(42)), (Ratio(3, 2), Ratio(2)),
            (Ratio(13), Ratio(24)), (Ratio(33), Ratio(44)), (Ratio(7, 2), Ratio(4))])

    def test_operands_stay(self):
        one, other = Cost((1, 2)), Cost((3, 4), (5, 6))
        one + other
        self.assertTrue(one == Cost((1, 2)) and other == Cost((3, 4), (5, 6)))
        kept = one
        one += other
        self.assertTrue(kept == Cost((1, 2)) and one == Cost((4, 6), (6, 8)))

    def test_other_values_on_the_right_side(self):
        for value in STRANGE + [0, 1, Ratio(1), "", (1, 2), [(1, 2)], ((1, 2),), {}, Cost, example(), example_plan()]:
            self.fails(InvalidLines, {"position": None}, operator.add, Cost((1, 2)), value)

    def test_costs_of_a_sum(self):
        chance = random.Random(55)
        for _ in range(80):
            one, other, load = drawn_cost(chance), drawn_cost(chance), drawn_number(chance)
            self.assertEqual((one + other)(load), one(load) + other(load))
            self.assertEqual(len((one + other).lines()), len(one.lines()) * len(other.lines()))


class EqualTest(Case):

    def test_the_same_lines_in_the_same_sequence(self):
        self.assertIs(Cost((1, 2), (3, 4)) == Cost((Ratio(2, 2), 2), (3, Ratio(4))), True)
        self.assertIs(Cost((1, 2), (3, 4)) != Cost((1, 2), (3, 4)), False)

    def test_other_lines_and_another_sequence(self):
        cost = Cost((1, 2), (3, 4))
        for other in (Cost((3, 4), (1, 2)), Cost((1, 2)), Cost((1, 2), (3, 4), (3, 4)), Cost((1, 2), (3, 5)),
                      Cost((1, 2), (4, 4)), Cost((2, 1), (4, 3))):
            self.assertIs(cost == other, False)
            self.assertIs(other == cost, False)
            self.assertIs(cost != other, True)

    def test_other_values(self):
        for value in STRANGE + [0, (1, 2), [(1, 2)], [(Ratio(1), Ratio(2))], Ratio(1), Cost, example()]:
            self.assertIs(Cost((1, 2)) == value, False)
            self.assertIs(value == Cost((1, 2)), False)


if __name__ == "__main__":
    unittest.main()
