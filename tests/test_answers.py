"""Stage 4: answers, which tell what they are through the classes that they come of."""

import random
import unittest

from evenloads.answers import Answer, Barred, Exact, Shown, answer, exact_top
from evenloads.bounds import is_bar, is_within, least_top, top_set
from evenloads.errors import InvalidBounds, InvalidYard
from evenloads.plans import Plan
from evenloads.ratios import Ratio
from evenloads.yards import Yard
from helpers import NO_PLANS, NO_YARDS, Case, example, example_plan, no_bounds
from oracles import drawn_yard, great_yards, in_time

TWO = Yard({"a": 1, "b": 2}, {"x": (1, ["a"])})


class Whole(Answer):
    """A class beside those of the package."""

    def told(self):
        return "whole: " + super().told()


class Reversed(Barred, Shown):
    """The bases of Exact in the other sequence."""

    def __init__(self, about, layout, barring):
        self.about, self.layout, self.barring = about, layout, barring

    def told(self):
        return "reversed: " + super().told()


class Narrow(Exact, Whole):
    """A class below Exact and another one."""

    def told(self):
        return "narrow: " + super().told()


class Plain(Shown, Whole):
    """A class with nothing of its own."""


class ClassesTest(Case):

    def test_attributes_are_kept_as_they_are_passed(self):
        for value in NO_YARDS + NO_PLANS + [TWO, example_plan()]:
            self.assertIs(Answer(value).about, value)
            self.assertIs(Answer(about=value).about, value)
            for made in (Shown(value, 1), Shown(layout=1, about=value), Barred(value, 1), Exact(value, 1, 2)):
                self.assertIs(made.about, value)
            for made in (Shown(1, value), Shown(layout=value, about=1), Exact(1, value, 2),
                         Exact(barring=2, about=1, layout=value)):
                self.assertIs(made.layout, value)
            for made in (Barred(1, value), Barred(barring=value, about=1), Exact(1, 2, value),
                         Exact(barring=value, layout=2, about=1)):
                self.assertIs(made.barring, value)

    def test_no_other_attributes(self):
        self.assertEqual(sorted(vars(Answer(1))), ["about"])
        self.assertEqual(sorted(vars(Shown(1, 2))), ["about", "layout"])
        self.assertEqual(sorted(vars(Barred(1, 2))), ["about", "barring"])
        self.assertEqual(sorted(vars(Exact(1, 2, 3))), ["about", "barring", "layout"])

    def test_bases(self):
        self.assertEqual(Answer.__bases__, (object,))
        self.assertEqual(Shown.__bases__, (Answer,))
        self.assertEqual(Barred.__bases__, (Answer,))
        self.assertEqual(Exact.__bases__, (Shown, Barred))
        for made in (Answer, Shown, Barred, Exact):
            self.assertEqual(sorted({"__init__", "told"} & set(vars(made))), ["__init__", "told"])
            self.assertEqual(made.__module__, "evenloads.answers")

    def test_told_of_each(self):
        self.assertEqual(Answer(TWO).told(), "2 servers, 1 tasks")
        self.assertEqual(Shown(TWO, None).told(), "shown: 2 servers, 1 tasks")
        self.assertEqual(Barred(TWO, None).told(), "barred: 2 servers, 1 tasks")
        self.assertEqual(Exact(TWO, None, None).told(), "exact: shown: barred: 2 servers, 1 tasks")
        self.assertEqual(Answer(Yard({"a": 1})).told(), "1 servers, 0 tasks")
        self.assertEqual(Shown(example(), example_plan()).told(), "shown: 3 servers, 3 tasks")

    def test_told_of_classes_that_are_made_beside_them(self):
        self.assertEqual(Whole(TWO).told(), "whole: 2 servers, 1 tasks")
        self.assertEqual(Reversed(TWO, 1, 2).told(), "reversed: barred: shown: 2 servers, 1 tasks")
        self.assertEqual(Narrow(TWO, 1, 2).told(), "narrow: exact: shown: barred: whole: 2 servers, 1 tasks")
        self.assertEqual(Plain(TWO, 1).told(), "shown: whole: 2 servers, 1 tasks")
        self.assertEqual(vars(Narrow(TWO, 1, 2)), {"about": TWO, "layout": 1, "barring": 2})


class AnswerTest(Case):

    def test_a_plan_within_the_bounds(self):
        for bounds in (3, Ratio(7, 2), {"c": 4, "b": 2, "a": 4}):
            found = answer(example(), bounds)
            self.assertIs(found.__class__, Shown)
            self.assertTrue(found.about == example())
            self.assertIs(is_within(found.layout, bounds), True)
            self.assertTrue(found.layout.yard == example())
            self.assertEqual(found.told(), "shown: 3 servers, 3 tasks")

    def test_a_bar(self):
        for bounds in (2, 0, {"c": 4, "b": 2, "a": 3}, {"a": 0, "b": 9, "c": Ratio(1, 3)}):
            found = answer(bounds=bounds, yard=example())
            self.assertIs(found.__class__, Barred)
            self.assertTrue(found.about == example())
            self.assertIs(found.barring.__class__, list)
            self.assertEqual(found.barring, sorted(found.barring))
            self.assertIs(is_bar(example(), bounds, found.barring), True)
            self.assertEqual(found.told(), "barred: 3 servers, 3 tasks")

    def test_drawn_yards(self):
        chance = random.Random(45)
        told = []
        for _ in range(80):
            yard = drawn_yard(chance)
            bounds = Ratio(chance.randint(0, 30), chance.randint(1, 6))
            found = answer(yard, bounds)
            told.append(found.__class__)
            if found.__class__ is Shown:
                self.assertIs(is_within(found.layout, bounds), True)
            else:
                self.assertIs(is_bar(yard, bounds, found.barring), True)
        self.assertGreater(min(told.count(Shown), told.count(Barred)), 10)

    def test_errors(self):
        for value in NO_YARDS:
            self.fails(InvalidYard, {"value": value}, answer, value, 3)
            self.fails(InvalidYard, {"value": value}, answer, value, None)
            self.fails(InvalidYard, {"value": value}, exact_top, value)
            self.fails(InvalidYard, {"value": value}, exact_top, yard=value)
        for value in no_bounds("abc"):
            self.fails(InvalidBounds, {"value": value}, answer, example(), value)


class ExactTopTest(Case):

    def check(self, yard):
        found = in_time(self, exact_top, yard)
        self.assertIs(found.__class__, Exact)
        self.assertTrue(found.about == yard)
        self.assertIs(found.layout.__class__, Plan)
        self.assertTrue(found.layout.yard == yard)
        self.assertEqual(found.layout.top, least_top(yard))
        self.assertEqual(found.barring, top_set(yard))
        self.assertEqual(yard.density(found.barring), least_top(yard))
        self.assertEqual(found.told(), f"exact: shown: barred: {len(yard.servers())} servers, {len(yard)} tasks")

    def test_the_documents_example(self):
        found = exact_top(yard=example())
        self.assertEqual(found.barring, ["a", "b"])
        self.same_ratio(found.layout.top, 3)
        self.check(example())

    def test_drawn_yards_and_great_ones(self):
        chance = random.Random(46)
        for yard in [Yard({"a": 1}), *(drawn_yard(chance) for _ in range(60)), *great_yards(chance)]:
            self.check(yard)


if __name__ == "__main__":
    unittest.main()
