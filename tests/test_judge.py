"""Stage 9 [92] and CHECKED: claims, their papers, and a judge who follows them."""

import random
import unittest

from evenloads.best import best_loads, best_plan, is_best
from evenloads.bounds import bar, plan_within
from evenloads.costs import Cost
from evenloads.errors import InvalidClaim
from evenloads.evening import best_assignment, heights
from evenloads.gifts import gifts_to_best
from evenloads.jobs import Assignment
from evenloads.judge import certificate_of, is_certificate, is_claim
from evenloads.moves import Move
from evenloads.plans import Plan
from evenloads.ratios import Ratio
from evenloads.yards import Yard
from helpers import CHANGES, NO_AMOUNTS, NO_ASSIGNMENTS, NO_NUMBERS, NO_PLANS, NO_SERVERS, NO_TASKS, NO_YARDS, STRANGE
from helpers import Case, example, example_plan, jobs_example, no_bounds
from oracles import drawn_jobs, drawn_spots, great_jobs, great_yards, in_time
from papers_oracle import changed, drawn_claims, gifts_beside, is_paper, is_true

WORDS = ["fits", "barred", "best", "beaten", "dearer", "top", "atmost", "atleast", "even", "uneven"]


def full():
    """An assignment that is not best."""
    return Assignment(jobs_example(), {"o": "a", "p": "a", "q": "a", "r": "c"})


def right_claims():
    """A claim of each kind, some true and some false."""
    yard, plan = example(), example_plan()
    return [("fits", yard, 4), ("fits", yard, {"a": 4, "b": 4, "c": Ratio(1, 2)}), ("barred", yard, Ratio(5, 2)),
            ("barred", yard, {"a": 2, "b": 2, "c": 9}), ("best", plan), ("best", best_plan(yard)), ("beaten", plan),
            ("beaten", best_plan(yard)), ("dearer", plan, best_plan(yard)), ("dearer", best_plan(yard), plan),
            ("top", yard, 3), ("top", yard, Ratio(3)), ("top", yard, -7), ("atmost", yard, "x", "a", 3),
            ("atleast", yard, "x", "a", Ratio(5, 2)), ("atmost", yard, "y", "b", 0), ("even", full()),
            ("even", best_assignment(jobs_example())), ("uneven", full())]


class IsClaimTest(Case):

    def claims(self, value, wanted):
        """A value is a claim or not; the judge raises InvalidClaim where it is none."""
        self.assertIs(is_claim(value), wanted)
        if not wanted:
            self.fails(InvalidClaim, {"value": value}, certificate_of, value)
            self.fails(InvalidClaim, {"value": value}, is_certificate, value, None)

    def test_claims_of_each_kind(self):
        for claim in right_claims():
            self.claims(claim, True)
            self.assertIs(is_claim(value=claim), True)

    def test_values_of_any_kind(self):
        for value in STRANGE + [0, "", "best", [], {}, (), (None,), ("",), ((),), example(), example_plan(), full(),
                                {"best": example_plan()}, Ratio(1)]:
            self.claims(value, False)
        for claim in right_claims():
            for value in (list(claim), claim[:-1], claim[:1], claim[1:], (*claim, None), (claim,), [claim], claim + claim,
                          (*claim, claim[-1])):
                self.claims(value, False)

    def test_other_first_words(self):
        for claim in right_claims():
            for word in STRANGE + ["", "Fits", "fit", "fits ", "bars", "worst", "bottom", "atMost", "odd", 0, Ratio(1), [], {},
                                   ("best",), b"best"]:
                self.claims((word, *claim[1:]), False)

    def test_each_word_with_the_parts_of_each_other_kind(self):
        pairs = [("fits", "barred"), ("best", "beaten"), ("atmost", "atleast"), ("even", "uneven")]
        for claim in right_claims():
            for word in WORDS:
                alike = word == claim[0] or (word, claim[0]) in pairs or (claim[0], word) in pairs
                # A single number makes up bounds if it is an AMOUNT.
                if claim[0] in ("fits", "barred"):
                    alike = alike or (word == "top" and not isinstance(claim[2], dict))
                if claim[0] == "top":
                    alike = alike or (word in ("fits", "barred") and claim[2] != -7)
                self.claims((word, *claim[1:]), alike)

    def test_yards_that_are_none(self):
        for value in NO_YARDS:
            for word, more in [("fits", (1,)), ("barred", (1,)), ("top", (1,)), ("atmost", ("x", "a", 1)),
                               ("atleast", ("x", "a", 1))]:
                self.claims((word, value, *more), False)

    def test_bounds_that_are_none(self):
        for value in no_bounds(["a", "b", "c"]):
            for word in ("fits", "barred"):
                self.claims((word, example(), value), False)

    def test_plans_that_are_none_or_of_unlike_yards(self):
        plan = example_plan()
        for value in NO_PLANS:
            for claim in [("best", value), ("beaten", value), ("dearer", value, plan), ("dearer", plan, value)]:
                self.claims(claim, False)
        yard = example()
        for change in CHANGES:
            yard = change(yard)
            other = Plan.first(yard)
            self.claims(("dearer", plan, other), False)
            self.claims(("dearer", other, plan), False)
        self.claims(("dearer", plan, Plan.first(example())), True)

    def test_numbers_that_are_none(self):
        for value in NO_NUMBERS:
            self.claims(("top", example(), value), False)
        for value in (-1, Ratio(-7, 2), 0, 10 ** 29):
            self.claims(("top", example(), value), True)
        for value in NO_AMOUNTS:
            for word in ("atmost", "atleast"):
                self.claims((word, example(), "x", "a", value), False)

    def test_tasks_servers_and_places_that_are_none(self):
        for word in ("atmost", "atleast"):
            for value in NO_TASKS:
                self.claims((word, example(), value, "a", 1), False)
            for value in NO_SERVERS:
                self.claims((word, example(), "x", value, 1), False)
            for task, server in [("x", "c"), ("y", "a"), ("z", "a"), ("z", "b"), ("a", "x")]:
                self.claims((word, example(), task, server, 1), False)
            for task, server in [("x", "a"), ("y", "b"), ("z", "c")]:
                self.claims((word, example(), task, server, 1), True)

    def test_assignments_that_are_none(self):
        for value in NO_ASSIGNMENTS:
            for word in ("even", "uneven"):
                self.claims((word, value), False)


class JudgeTest(Case):

    def holds(self, claim, value, wanted):
        """A value is a paper of a claim or not."""
        self.assertIs(is_certificate(claim, value), wanted, (claim[0], value))

    def has_paper(self, claim):
        """A true claim has a paper, which is accepted; of a false one nothing is. Return the paper and which it is."""
        paper, wanted = certificate_of(claim), is_true(claim)
        self.holds(claim, paper, wanted)
        self.assertIs(is_paper(claim, paper), wanted)
        if not wanted:
            self.assertIsNone(paper)
        self.holds(claim, None, is_paper(claim, None))
        return paper, wanted

    def test_the_documents_example(self):
        for claim in right_claims():
            paper, wanted = self.has_paper(claim)
            self.assertIs(is_certificate(value=certificate_of(claim=claim), claim=claim), wanted)

    def test_drawn_claims(self):
        chance = random.Random(111)
        told = {word: [] for word in WORDS}
        for _ in range(16):
            claims = drawn_claims(chance)
            found = [self.has_paper(claim) for claim in claims]
            papers = [paper for paper, _ in found]
            for claim, (paper, wanted) in zip(claims, found):
                told[claim[0]].append(wanted)
                for value in [*chance.sample(papers, 3), 0, "", []]:
                    self.holds(claim, value, wanted and is_paper(claim, value))
        for word in WORDS:
            self.assertGreater(min(told[word].count(True), told[word].count(False)), 3, word)

    def test_papers_with_something_otherwise(self):
        chance = random.Random(112)
        told = {word: [] for word in WORDS}
        for _ in range(10):
            for claim in chance.sample([claim for claim in drawn_claims(chance) if is_true(claim)], 12):
                for value in changed(certificate_of(claim)):
                    wanted = is_paper(claim, value)
                    self.holds(claim, value, wanted)
                    told[claim[0]].append(wanted)
        for word in WORDS:
            self.assertGreater(told[word].count(False), 5, word)
        for word in ("fits", "best", "even"):
            self.assertGreater(told[word].count(True), 5, word)

    def test_values_of_any_kind_are_no_papers(self):
        chance = random.Random(113)
        for claim in right_claims() + drawn_claims(chance):
            for value in STRANGE[1:] + [0, 1, "", "a", "abc", {}, [], (), Ratio(3), (None, None), ({}, []), [[]], [None],
                                        {None: 1}, {"a": None}, example(), example_plan(), full(), iter([])]:
                self.holds(claim, value, is_paper(claim, value))


class EachKindTest(Case):

    def test_fits(self):
        yard = Yard({"a": 1, "b": 2}, {"x": (3, ["a", "b"])})
        claim = ("fits", yard, {"a": 1, "b": Ratio(3, 2)})
        for value in ({("x", "b"): 3}, {("x", "b"): Ratio(3), ("x", "a"): 0}, {("x", "a"): 1, ("x", "b"): 2},
                      {("x", "a"): Ratio(1, 2), ("x", "b"): Ratio(5, 2)}):
            self.assertIs(is_certificate(claim, value), True)
        for value in ({("x", "a"): 3}, {("x", "a"): True, ("x", "b"): 2}, {("x", "b"): 2}, {("x", "a"): -1, ("x", "b"): 4},
                      {("x", "b"): 3, ("y", "a"): 0}, {("x", "b"): 3, ("x", "c"): 0}, {("x", "b"): 3, "x": 0},
                      [(("x", "b"), 3)], plan_within(yard, 3), {("b", "x"): 3}):
            self.assertIs(is_certificate(claim, value), False)
        self.assertEqual(set(certificate_of(claim)), {("x", "a"), ("x", "b")} & set(certificate_of(claim)))

    def test_barred(self):
        claim = ("barred", example(), {"a": 2, "b": 3, "c": 0})
        for value in (["a", "b"], ("b", "a"), ["c"], ["c", "a", "b"]):
            self.assertIs(is_certificate(claim, value), True)
        for value in ([], ["a"], ["a", "b", "a"], ["a", "b", "d"], {"a", "b"}, {"a": 1, "b": 1}, "ab", ["a", ["b"]]):
            self.assertIs(is_certificate(claim, value), False)
        self.assertEqual(certificate_of(claim), bar(example(), claim[2]))

    def test_best(self):
        plan = best_plan(example())
        claim = ("best", plan)
        for value in ({"a": 3, "b": 3, "c": Ratio(3, 2)}, {"c": Ratio(3, 2), "b": Ratio(3), "a": 3}):
            self.assertIs(is_certificate(claim, value), True)
        for value in ({"a": 3, "b": 3}, {"a": 3, "b": 3, "c": 1}, {"a": 3, "b": 3, "c": Ratio(3, 2), "d": 0}, None,
                      {"a": 3, "b": 3, "c": None}, [3, 3, Ratio(3, 2)], {"a": 3, "b": "3", "c": Ratio(3, 2)}, plan):
            self.assertIs(is_certificate(claim, value), False)
        self.assertEqual(certificate_of(claim), best_loads(example()))
        self.assertIs(is_certificate(("best", example_plan()), best_loads(example())), False)
        self.assertIs(is_certificate(("best", example_plan()), example_plan().loads()), False)
        ones = Plan(Yard({"a": 1, "b": 1}, {"x": (1, ["a"])}), {("x", "a"): 1})
        self.assertIs(is_certificate(("best", ones), {"a": 1, "b": 0}), True)
        for value in ({"a": True, "b": 0}, {"a": 1, "b": False}):
            self.assertIs(is_certificate(("best", ones), value), False)

    def test_beaten(self):
        plan = example_plan()
        claim = ("beaten", plan)
        for value in (list(gifts_to_best(plan)), tuple(gifts_to_best(plan)), gifts_beside(plan)):
            self.assertIs(is_certificate(claim, value), True)
        for value in ([], None, list(gifts_to_best(plan))[:-1], list(gifts_to_best(plan))[::-1][:1], {}, plan):
            self.assertIs(is_certificate(claim, value), False)
        self.assertIs(is_certificate(("beaten", best_plan(example())), []), False)
        self.assertIs(is_certificate(("beaten", best_plan(example())), list(gifts_to_best(plan))), False)

    def test_dearer(self):
        plan, best = example_plan(), best_plan(example())
        for value in (Cost.hinge(3), Cost.hinge(Ratio(7, 2)), Cost((1, 0), (4, -9)), Cost((-1, 0), (1, -4))):
            self.assertIs(is_certificate(("dearer", plan, best), value), True)
            self.assertIs(is_certificate(("dearer", best, plan), value), False)
        for value in (Cost.hinge(4), Cost((5, 7)), Cost((0, 0)), Cost.hinge(3).lines(), 3, None):
            self.assertIs(is_certificate(("dearer", plan, best), value), False)
        self.assertIsNone(certificate_of(("dearer", plan, plan)))

    def test_top(self):
        yard = example()
        best = best_plan(yard).amounts()
        even = {("x", "a"): 3, ("x", "b"): 3, ("y", "c"): 2, ("z", "c"): 1}
        for amounts in (best, even, {**even, ("y", "b"): 0}):
            for servers in (["a", "b"], ("b", "a")):
                self.assertIs(is_certificate(("top", yard, 3), (amounts, servers)), True)
                self.assertIs(is_certificate(("top", yard, Ratio(3)), (amounts, servers)), True)
                for number in (2, 4, 0, -3, Ratio(5, 2)):
                    self.assertIs(is_certificate(("top", yard, number), (amounts, servers)), False)
                self.assertIs(is_certificate(("top", yard, 3), [amounts, servers]), False)
            for servers in ([], ["a"], ["a", "b", "b"], ["a", "b", "c"], {"a", "b"}, None, "ab"):
                self.assertIs(is_certificate(("top", yard, 3), (amounts, servers)), False)
        self.assertIs(is_certificate(("top", yard, 3), (example_plan().amounts(), ["a", "b"])), False)
        self.assertIs(certificate_of(("top", yard, 3)).__class__, tuple)
        # Without work each set has the density 0; the empty one has none.
        nothing = Yard({"a": 1, "b": 1})
        self.assertIs(is_certificate(("top", nothing, 0), ({}, ["b"])), True)
        self.assertIs(is_certificate(("top", nothing, 0), ({}, [])), False)

    def test_spans(self):
        yard = Yard({"a": 1, "b": 1, "c": 1}, {"x": (2, ["a", "b"]), "y": (1, ["a", "b"]), "z": (1, ["b", "c"])})
        for number in (Ratio(3, 2), Ratio(7, 4)):
            for value in (["a"], ("a", "c"), ["c", "a"]):
                self.assertIs(is_certificate(("atmost", yard, "x", "a", number), value), True)
            for value in (None, ["b"], [], ["a", "b"], ["a", "a"], ["a", "d"], "a"):
                self.assertIs(is_certificate(("atmost", yard, "x", "a", number), value), False)
        for number in (1, Ratio(29, 20), 0):
            for value in (None, ["a"], ["a", "c"], []):
                self.assertIs(is_certificate(("atmost", yard, "x", "a", number), value), False)
        # None alone where the work is no more, and where the server is no least place.
        for claim in [("atmost", yard, "x", "a", 2), ("atmost", yard, "x", "a", 5), ("atmost", yard, "z", "b", 0),
                      ("atmost", yard, "z", "b", 7), ("atleast", yard, "x", "a", 0), ("atleast", yard, "z", "b", 0)]:
            self.assertIsNone(certificate_of(claim))
            self.assertIs(is_certificate(claim, None), True)
            for value in ([], ["a"], ["b"], ["c"], ["a", "c"], False, 0):
                self.assertIs(is_certificate(claim, value), False)
        for value in (["b"], ("c", "b")):
            self.assertIs(is_certificate(("atleast", yard, "x", "a", Ratio(1, 2)), value), True)
            self.assertIs(is_certificate(("atleast", yard, "x", "a", Ratio(1, 3)), value), True)
            self.assertIs(is_certificate(("atleast", yard, "x", "a", Ratio(2, 3)), value), False)
        # A task with a single least place is lifted to its work by the empty set.
        self.assertIs(is_certificate(("atleast", yard, "z", "c", 1), []), True)
        self.assertIs(is_certificate(("atleast", yard, "z", "c", 1), ()), True)
        self.assertIs(is_certificate(("atleast", yard, "z", "c", 1), None), False)
        self.assertIsNone(certificate_of(("atleast", yard, "z", "b", 1)))
        for value in (None, [], ["c"], ["a", "c"]):
            self.assertIs(is_certificate(("atleast", yard, "z", "b", 1), value), False)

    def test_even_and_uneven(self):
        best = best_assignment(jobs_example())
        right = heights(best)
        self.assertIs(is_certificate(("even", best), right), True)
        for value in ({**right, "a": Ratio(right["a"])}, None, {}, list(right), {server: right[server] + 1 for server in right}):
            self.assertIs(is_certificate(("even", best), value), False)
        self.assertIs(is_certificate(("even", full()), full().counts()), False)
        for value in ([Move("q", "a", "b")], (Move("o", "a", "b"),)):
            self.assertIs(is_certificate(("uneven", full()), value), True)
            self.assertIs(is_certificate(("uneven", best), value), False)
        for value in ([Move("o", "a", "c")] * 2, [], None, [Move("p", "a", "b")], Move("q", "a", "b"), [Move("r", "c", "a")]):
            self.assertIs(is_certificate(("uneven", full()), value), False)
        # A step that makes counts no more even is no steep way.
        pair = Assignment(Yard.jobs(["a", "b"], p=["a"], q=["a", "b"], r=["b"]), {"p": "a", "q": "a", "r": "b"})
        self.assertIs(pair.is_way([Move("q", "a", "b")]), True)
        self.assertIs(is_certificate(("uneven", pair), [Move("q", "a", "b")]), False)


class GreatTest(Case):

    def judged(self, claim, wanted):
        """A paper is found and followed in time."""
        paper = in_time(self, certificate_of, claim)
        self.assertIs(in_time(self, is_certificate, claim, paper), wanted)

    def test_great_yards(self):
        bit = Ratio(1, 10 ** 29)
        for yard in great_yards(random.Random(114)):
            loads, plan = best_loads(yard), best_plan(yard)
            top = plan.top
            for word, wanted in [("fits", True), ("barred", False)]:
                self.judged((word, yard, loads), wanted)
                self.judged((word, yard, top), wanted)
                self.judged((word, yard, top - bit), not wanted)
            self.judged(("top", yard, top), True)
            self.judged(("top", yard, top + bit), False)
            shared = Plan.shared(yard)
            for other in (plan, shared, Plan.first(yard)):
                self.judged(("best", other), is_best(other))
                self.judged(("beaten", other), not is_best(other))
                self.judged(("dearer", other, plan), not is_best(other))
                self.judged(("dearer", plan, other), False)
            for task in yard.tasks()[::5]:
                for server in yard.places(task)[::3]:
                    amount = plan[task, server]
                    self.judged(("atmost", yard, task, server, yard.work(task)), True)
                    if amount.top > 0:
                        self.judged(("atmost", yard, task, server, amount.over(2)), False)
                    self.judged(("atleast", yard, task, server, amount + 1), False)
                    self.judged(("atleast", yard, task, server, 0), True)

    def test_great_jobs(self):
        chance = random.Random(115)
        for yard in great_jobs(chance) + [drawn_jobs(chance, 8, 20)]:
            best = best_assignment(yard)
            other = Assignment(yard, drawn_spots(yard, chance))
            self.judged(("even", best), True)
            self.judged(("uneven", best), False)
            self.assertNotEqual(is_certificate(("even", other), certificate_of(("even", other))),
                                is_certificate(("uneven", other), certificate_of(("uneven", other))))


if __name__ == "__main__":
    unittest.main()
