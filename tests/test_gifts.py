"""Stage 5 [54] and A RULE OR GIFTS: gifts that lead a plan to a best one."""

import itertools
import random
import unittest
from fractions import Fraction

from evenloads.best import best_loads, best_plan, is_best, levels
from evenloads.errors import InvalidPlan
from evenloads.gifts import gifts_to_best, is_leading, led
from evenloads.moves import Gift, Move
from evenloads.plans import Plan
from evenloads.ratios import Ratio
from evenloads.yards import Yard
from helpers import CHANGES, NO_GIFTS, NO_PLANS, STRANGE, Case, example, example_plan
from oracles import drawn_plan, drawn_yard, exact, great_yards, in_time


class GiftsCase(Case):

    def leads(self, plan):
        """Gifts lead a plan to a best one, each downhill when its turn comes; return how many."""
        amounts = plan.amounts()
        current, many = plan, 0
        for gift in gifts_to_best(plan):
            self.assertIs(gift.__class__, Gift)
            self.assertIs(current.is_downhill(gift), True)
            after = current >> gift
            self.assertIs(after.never_dearer(current), True)
            current, many = after, many + 1
        self.assertIs(is_best(current), True)
        self.assertEqual(current.loads(), best_loads(plan.yard))
        self.assertEqual(many == 0, is_best(plan))
        found = led(plan)
        self.assertIs(is_best(found), True)
        self.assertTrue(found.yard == plan.yard)
        self.assertIs(is_leading(plan, list(gifts_to_best(plan))), True)
        self.assertEqual(plan.amounts(), amounts)
        return many


class LeadingTest(GiftsCase):

    def test_the_documents_example(self):
        gifts = list(gifts_to_best(example_plan()))
        self.assertIs(is_leading(example_plan(), gifts), True)
        self.assertIs(is_leading(plan=example_plan(), value=tuple(gifts)), True)
        self.leads(example_plan())

    def test_from_first_shared_and_drawn_plans(self):
        chance = random.Random(71)
        counts = []
        for _ in range(120):
            yard = drawn_yard(chance)
            for plan in (Plan.first(yard), Plan.shared(yard), drawn_plan(yard, chance)):
                counts.append(self.leads(plan))
        self.assertGreater(counts.count(0), 10)
        self.assertGreater(max(counts), 5)

    def test_from_and_to_plans_of_changed_yards(self):
        chance = random.Random(72)
        yard = example()
        for change in CHANGES:
            yard = change(yard)
            for plan in (Plan.first(yard), Plan.shared(yard), drawn_plan(yard, chance)):
                self.leads(plan)

    def test_a_long_chain(self):
        # All work is at the first server's side, and must go on from server to server.
        servers = "abcdefghijkl"
        tasks = {"t" + one: (2, [one, other]) for one, other in zip(servers, servers[1:])}
        plan = Plan.first(Yard({server: 1 for server in servers}, tasks))
        self.assertGreater(self.leads(plan), 0)
        self.assertEqual(led(plan).loads(), {server: Ratio(11, 6) for server in servers})

    def test_none_for_a_best_plan(self):
        chance = random.Random(73)
        for _ in range(40):
            plan = best_plan(drawn_yard(chance))
            self.assertEqual(list(gifts_to_best(plan)), [])
            self.assertTrue(led(plan) == plan)
            self.assertIs(is_leading(plan, []), True)
            self.assertIs(is_leading(plan, ()), True)

    def test_led_of_a_best_plan_is_this_plan(self):
        yard = Yard({"a": 1, "b": 1}, {"x": (2, ["a", "b"]), "y": (2, ["a", "b"])})
        for amounts in ({("x", "a"): 2, ("y", "b"): 2}, {("x", "b"): 2, ("y", "a"): 2},
                        {("x", "a"): Ratio(1, 3), ("x", "b"): Ratio(5, 3), ("y", "a"): Ratio(5, 3),
                         ("y", "b"): Ratio(1, 3)}):
            self.assertTrue(led(Plan(yard, amounts)) == Plan(yard, amounts))
            self.assertTrue(led(plan=Plan(yard, amounts)) == Plan(yard, amounts))

    def test_one_gift_at_a_time(self):
        plan = Plan.shared(Yard({"a": 1, "b": 3, "c": 2, "d": 1},
                                {"x": (7, ["a", "b", "d"]), "y": (5, ["c", "d"]), "z": (Ratio(9, 2), ["a", "c"])}))
        wanted = list(gifts_to_best(plan))
        self.assertGreater(len(wanted), 1)
        one, other = gifts_to_best(plan), gifts_to_best(plan=plan)
        self.assertIs(iter(one), one)
        current, found = plan, []
        while not is_best(current):
            gift = next(one)
            self.assertTrue(gift == next(other))
            self.assertIs(current.is_downhill(gift), True)
            found.append(gift)
            current = current >> gift
        self.assertIsNone(next(one, None))
        self.assertIsNone(next(one, None))
        self.assertEqual(found, wanted)

    def test_it_need_not_be_asked_to_its_end(self):
        plan = example_plan()
        gifts = gifts_to_best(plan)
        next(gifts)
        gifts.close()
        self.assertTrue(plan == example_plan())

    def test_errors_come_when_the_iteration_begins(self):
        for value in NO_PLANS:
            gifts = gifts_to_best(value)
            self.fails(InvalidPlan, {"value": value}, next, gifts)
            self.fails(InvalidPlan, {"value": value}, list, gifts_to_best(plan=value))
            self.fails(InvalidPlan, {"value": value}, led, value)

    def test_great_yards(self):
        for yard in great_yards(random.Random(74)):
            for plan in (Plan.first(yard), Plan.shared(yard)):
                gifts = in_time(self, lambda: list(gifts_to_best(plan)))
                self.assertIs(in_time(self, is_leading, plan, gifts), True)
                self.assertEqual(in_time(self, led, plan).loads(), best_loads(yard))

    def test_great_yards_of_twelve_levels(self):
        servers = "abcdefghijkl"
        own = {"o" + server: (10 ** 29 + 10 ** 28 * at, [server]) for at, server in enumerate(servers)}
        shared = {"s" + server: (10 ** 26 + at, list(servers)) for at, server in enumerate(servers)}
        plan = Plan.shared(Yard({server: 1 for server in servers}, {**own, **shared}))
        self.assertEqual(len(levels(plan.yard)), 12)
        gifts = in_time(self, lambda: list(gifts_to_best(plan)))
        self.assertIs(in_time(self, is_leading, plan, gifts), True)


class IsLeadingTest(GiftsCase):

    def setUp(self):
        # The loads are 8, 8 and 0, and are to be 4 each.
        self.yard = Yard({"a": 1, "b": 1, "c": 2}, {"x": (8, ["a", "b"]), "y": (8, ["b", "c"])})
        self.plan = Plan(self.yard, {("x", "a"): 8, ("y", "b"): 8})
        self.gifts = [Gift.single(5, "y", "b", "c"), Gift.single(Ratio(5, 2), "x", "a", "b"),
                      Gift.single(Ratio(3, 2), "y", "b", "c"),
                      Gift(Ratio(3, 2), Move("x", "a", "b"), Move("y", "b", "c"))]

    def follows(self, gifts):
        """Whether gifts lead from the plan here, followed with Fractions."""
        amounts = {("x", "a"): Fraction(8), ("x", "b"): Fraction(0), ("y", "b"): Fraction(8), ("y", "c"): Fraction(0)}
        for gift in gifts:
            amount = exact(gift.amount)
            possible = all(amounts[move.task, move.start] >= amount for move in gift.moves())
            ahead = self.loads(amounts)
            for move in gift.moves():
                amounts[move.task, move.start] = amounts[move.task, move.start] - amount
                amounts[move.task, move.goal] = amounts[move.task, move.goal] + amount
            behind = self.loads(amounts)
            if not possible or ahead[gift.start] <= ahead[gift.goal] or behind[gift.start] < behind[gift.goal]:
                return False
        return self.loads(amounts) == {"a": 4, "b": 4, "c": 4}

    def loads(self, amounts):
        return {"a": amounts["x", "a"], "b": amounts["x", "b"] + amounts["y", "b"], "c": amounts["y", "c"] / 2}

    def test_what_leads(self):
        self.assertIs(is_leading(self.plan, self.gifts), True)
        self.assertIs(is_leading(self.plan, tuple(self.gifts)), True)
        other = [Gift(4, Move("x", "a", "b"), Move("y", "b", "c")), Gift.single(4, "y", "b", "c")]
        self.assertIs(is_leading(self.plan, other), True)
        self.assertEqual(len(self.gifts), 4)

    def test_another_sequence(self):
        told = []
        for gifts in itertools.permutations(self.gifts):
            told.append(is_leading(self.plan, list(gifts)))
            self.assertIs(told[-1], self.follows(gifts))
        self.assertGreater(min(told.count(True), told.count(False)), 1)

    def test_one_too_few_or_too_many(self):
        for at in range(4):
            self.assertIs(is_leading(self.plan, self.gifts[:at] + self.gifts[at + 1:]), False)
        for gift in [*self.gifts, Gift.single(1, "x", "b", "a"), Gift.single(Ratio(1, 10 ** 29), "y", "c", "b")]:
            self.assertIs(is_leading(self.plan, [*self.gifts, gift]), False)

    def test_the_empty_list(self):
        self.assertIs(is_leading(self.plan, []), False)
        self.assertIs(is_leading(example_plan(), ()), False)
        self.assertIs(is_leading(best_plan(self.yard), []), True)

    def test_a_gift_that_is_possible_but_not_downhill(self):
        plan = Plan(self.yard, {("x", "a"): 4, ("x", "b"): 4, ("y", "c"): 8})
        self.assertIs(is_leading(plan, []), True)
        self.assertIs(is_leading(plan, [Gift.single(1, "x", "a", "b"), Gift.single(1, "x", "b", "a")]), False)

    def test_a_little_less_does_not_lead(self):
        for at in range(4):
            gifts = list(self.gifts)
            gifts[at] = Gift(gifts[at].amount - Ratio(1, 10 ** 29), *gifts[at].moves())
            self.assertIs(is_leading(self.plan, gifts), False)

    def test_no_lists(self):
        for value in STRANGE + [0, 1, "", "ab", {}, {0: self.gifts[0]}, self.gifts[0], self.plan, self.yard,
                                Move("x", "a", "b"), iter(self.gifts), Ratio(1)]:
            self.assertIs(is_leading(self.plan, value), False)
            self.assertIs(is_leading(best_plan(self.yard), value), False)

    def test_values_that_are_no_gifts(self):
        for value in NO_GIFTS:
            for gifts in ([value], [value, *self.gifts], [*self.gifts, value], [self.gifts[0], value, *self.gifts[1:]]):
                self.assertIs(is_leading(self.plan, gifts), False)
            self.assertIs(is_leading(best_plan(self.yard), [value]), False)

    def test_values_that_are_no_plans(self):
        for value in NO_PLANS:
            self.fails(InvalidPlan, {"value": value}, is_leading, value, [])
            self.fails(InvalidPlan, {"value": value}, is_leading, value, None)


if __name__ == "__main__":
    unittest.main()
