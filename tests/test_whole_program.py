"""[4]: the guarantees over several files at once, for yards that came about in every way."""

import random
import unittest

from evenloads.answers import answer, exact_top
from evenloads.best import best_loads, best_plan, first_fault, is_best, levels
from evenloads.board import Board
from evenloads.bounds import bar, is_within, least_top, place_all, plan_within, top_set
from evenloads.changes import effects, who_pays
from evenloads.costs import Cost
from evenloads.curves import Curve, payers, relieved
from evenloads.evening import best_assignment, best_counts, certain_places, distance, heights, is_even, nearest_best
from evenloads.evening import possible_places, ways_to_best
from evenloads.gifts import gifts_to_best, is_leading, led
from evenloads.jobs import Assignment
from evenloads.judge import certificate_of, is_certificate
from evenloads.plans import Plan
from evenloads.ratios import Ratio
from evenloads.spans import cap, capping_set, least_places, lift, lifting_set, plan_giving, span, spare_places, sure_places
from evenloads.texts import read_yard, yard_text
from evenloads.ties import is_ring, is_tight, ring, thin, tight_set
from evenloads.yards import Yard
from helpers import CHANGES, JOB_CHANGES, Case, example, jobs_example
from oracles import drawn_jobs, drawn_plan, drawn_spots, drawn_yard, exact, ratio, searched_loads
from test_board import WAYS

BIT = Ratio(1, 10 ** 20)
COSTS = [Cost((1, 0), (3, -7)), Cost((-1, 4), (0, 0), (2, -3)), Cost.hinge(2), Cost((0, 5)), Cost((-2, 1)),
         Cost((1, 0)) + Cost.hinge(Ratio(1, 2))]


class WholeCase(Case):

    def proved(self, claim, wanted):
        """A claim has a paper that the judge accepts just where it is true."""
        self.assertIs(is_certificate(claim, certificate_of(claim)), wanted, claim[0])

    def holds(self, yard):
        """All files tell the same of a yard."""
        searched = searched_loads(yard)
        loads = {server: ratio(searched[server]) for server in yard.servers()}
        plan = best_plan(yard)
        self.loads_are_the_same(yard, plan, loads)
        self.bounds_are_told(yard, plan, loads)
        for other in (Plan.first(yard), Plan.shared(yard), drawn_plan(yard, random.Random(131))):
            self.one_for_all(plan, other)
            self.a_rule_or_gifts(other)
        self.spans_are_exact(yard, plan)
        self.ties_hold(yard, plan, loads)
        self.growing_work(yard, loads)

    def loads_are_the_same(self, yard, plan, loads):
        text = yard_text(yard)
        board = Board(read_yard(text))
        self.assertTrue(board.yard == yard)
        self.assertEqual(plan.loads(), loads)
        self.assertEqual(best_loads(yard), loads)
        self.assertEqual(board.plan.loads(), loads)
        self.assertEqual(board.do("loads"), " ".join(f"{server}={load}" for server, load in loads.items()))
        self.assertEqual({server: load for load, servers, _ in levels(yard) for server in servers}, loads)
        self.assertEqual((plan.top, least_top(yard), board.do("top")), (levels(yard)[0][0], plan.top, str(plan.top)))
        self.assertEqual(top_set(yard), levels(yard)[0][1])
        self.assertEqual(exact_top(yard).barring, top_set(yard))
        self.assertEqual(exact_top(yard).layout.top, plan.top)
        for task in yard.tasks():
            self.assertEqual(Curve(yard, task)(yard.work(task)), loads)
        self.assertEqual(effects(yard, board.yard), {server: Ratio(0) for server in loads})

    def bounds_are_told(self, yard, plan, loads):
        self.proved(("top", yard, plan.top), True)
        self.proved(("top", yard, plan.top + BIT), False)
        for bounds in (loads, plan.top):
            self.assertIs(is_within(plan, bounds), True)
            self.assertIs(is_within(place_all(yard, bounds), bounds), True)
            self.assertIsNone(bar(yard, bounds))
            self.assertEqual(answer(yard, bounds).told()[:7], "shown: ")
            self.proved(("fits", yard, bounds), True)
            self.proved(("barred", yard, bounds), False)
        for server in loads:
            if loads[server].top > 0:
                less = {**loads, server: loads[server] - loads[server].over(10 ** 9)}
                self.assertIsNone(plan_within(yard, less))
                self.proved(("barred", yard, less), True)
                self.proved(("fits", yard, less), False)

    def one_for_all(self, plan, other):
        self.assertIs(plan.never_dearer(other), True)
        self.proved(("dearer", plan, other), False)
        self.proved(("dearer", other, plan), not is_best(other))
        for cost in COSTS:
            self.assertLessEqual(cost.of_plan(plan).compare(cost.of_plan(other)), 0)

    def a_rule_or_gifts(self, plan):
        self.assertEqual(first_fault(plan) is None, is_best(plan))
        self.assertIs(is_leading(plan, list(gifts_to_best(plan))), True)
        self.assertIs(is_best(led(plan)), True)
        self.proved(("best", plan), is_best(plan))
        self.proved(("beaten", plan), not is_best(plan))

    def spans_are_exact(self, yard, plan):
        sure, spare = sure_places(yard), spare_places(yard)
        for task in yard.tasks():
            for server in yard.places(task):
                least, greatest = span(yard, task, server)
                self.assertLessEqual(least.compare(plan[task, server]), 0)
                self.assertLessEqual(plan[task, server].compare(greatest), 0)
                self.assertEqual(((task, server) in sure, (task, server) in spare), (least.top > 0, greatest.top == 0))
                for amount in (least, greatest):
                    self.assertEqual(plan_giving(yard, task, server, amount)[task, server], amount)
                capping, lifting = capping_set(yard, task, server), lifting_set(yard, task, server)
                if capping is not None:
                    self.assertEqual(cap(yard, task, server, capping), greatest)
                if lifting is not None:
                    self.assertEqual(lift(yard, task, server, lifting), least)
                self.proved(("atmost", yard, task, server, greatest), True)
                self.proved(("atleast", yard, task, server, least), True)
                self.proved(("atleast", yard, task, server, least + BIT), False)
                if greatest.top > 0:
                    self.proved(("atmost", yard, task, server, greatest - greatest.over(10 ** 9)), False)
                self.assertEqual(Board(yard).do(f"span {task} {server}"), f"{least} {greatest}")

    def ties_hold(self, yard, plan, loads):
        thinned = thin(plan)
        self.assertEqual(thinned.loads(), loads)
        self.assertIsNone(ring(thinned))
        shared = Plan.shared(yard)
        self.assertTrue(ring(shared) is None or is_ring(shared, ring(shared)))
        for server in yard.servers():
            servers = tight_set(yard, server)
            self.assertIs(is_tight(yard, servers), True)
            self.assertTrue(all(loads[other] == loads[server] for other in servers))
        # No task gives to a tight set unless all its least places belong to it.
        for task, server in plan.ties():
            self.assertTrue(set(least_places(yard, task)) <= set(tight_set(yard, server)))

    def growing_work(self, yard, loads):
        self.assertEqual(who_pays(yard), {task: payers(yard, task) for task in yard.tasks()})
        for task in yard.tasks():
            curve, work = Curve(yard, task), yard.work(task)
            self.assertEqual(Board(yard).do("payers " + task), " ".join(payers(yard, task)))
            more = effects(yard, yard.with_work(task, work + BIT))
            self.assertEqual([server for server in more if more[server].top > 0], payers(yard, task))
            self.assertGreaterEqual(min(exact(load) for load in more.values()), 0)
            self.assertEqual(curve.risers(work), payers(yard, task))
            self.assertEqual(curve.fallers(work), relieved(yard, task))
            greatest = curve.greatest_work(best_plan(yard).top)
            self.assertGreaterEqual(greatest.compare(work), 0)
            self.assertEqual(least_top(yard.with_work(task, greatest)), best_plan(yard).top)
            self.assertIn(Ratio(0), list(curve.breaks()))
        for server in yard.servers():
            faster = yard.with_speed(server, min(yard.speed(server) + 1, 1000))
            self.assertLessEqual(max(exact(load) for load in effects(yard, faster).values()), 0)
        if len(yard.servers()) < 8:
            further = yard.with_server("further", 2, *yard.tasks()[:2])
            self.assertLessEqual(max(exact(load) for load in effects(yard, further).values()), 0)

    def jobs_hold(self, yard):
        """All files tell the same of a whole yard."""
        loads, best = best_loads(yard), best_assignment(yard)
        self.assertEqual(sorted(best.counts().values()), best_counts(yard))
        for server, count in best.counts().items():
            self.assertIn(count, [loads[server].floor(), loads[server].ceiling()])
        possible = possible_places(yard)
        self.assertTrue(all((job, best[job]) in possible for job in yard.tasks()))
        self.assertTrue(all(best[job] == server for job, server in certain_places(yard)))
        self.proved(("even", best), True)
        self.proved(("uneven", best), False)
        chance = random.Random(132)
        for _ in range(3):
            other = Assignment(yard, drawn_spots(yard, chance))
            even = is_even(other)
            self.proved(("even", other), even)
            self.proved(("uneven", other), not even)
            self.assertEqual((heights(other) is not None, distance(other) == 0, list(ways_to_best(other)) == []),
                             (even, even, even))
            self.assertIs(is_even(nearest_best(other)), True)
            # No whole jobs are better than divided ones.
            self.assertIs(best_plan(yard).never_dearer(other.as_plan()), True)
            self.assertIs(best.as_plan().never_dearer(other.as_plan()), True)


class GuaranteesTest(WholeCase):

    def test_yards_that_are_read_and_changed(self):
        yard = read_yard(yard_text(example()))
        self.holds(yard)
        for change in CHANGES:
            yard = change(yard)
            self.holds(yard)
            yard = read_yard(yard_text(yard))
        self.holds(yard)

    def test_yards_on_a_board(self):
        board, yards = Board(read_yard(yard_text(example()))), [example()]
        for change, wanted in WAYS:
            change(board)
            yards.append(wanted(yards[-1]))
            self.holds(board.yard)
        for command in ("work x 5/2", "forbid w d", "task k 4 a b d", "undo", "speed a 9"):
            self.assertEqual(board.do(command), "done")
            self.holds(board.yard)
        while board.changes > 0:
            board.undo()
        self.assertTrue(board.yard == example())
        self.holds(board.yard)

    def test_drawn_yards(self):
        chance = random.Random(133)
        for _ in range(30):
            self.holds(drawn_yard(chance))

    def test_yards_without_tasks_and_without_work(self):
        self.holds(Yard({"a": 1, "b": 3}))
        self.holds(example().scaled(0))
        self.holds(Yard({"a": 7}, {"x": (Ratio(1, 3), ["a"])}))

    def test_whole_yards(self):
        yard = read_yard(yard_text(jobs_example()))
        for change in JOB_CHANGES:
            self.holds(yard)
            self.jobs_hold(yard)
            yard = read_yard(yard_text(change(yard)))
        self.jobs_hold(yard)
        chance = random.Random(134)
        for _ in range(30):
            self.jobs_hold(drawn_jobs(chance, 5, 7))

    def test_whole_yards_on_a_board(self):
        board = Board(Yard.jobs(["a", "b"], p=["a"], q=["a", "b"]))
        for command in ("server c 1 p", "task r 1 a b", "task s 1 a", "forbid q b", "allow s c", "drop p", "undo"):
            self.assertEqual(board.do(command), "done")
            self.jobs_hold(board.yard)
            self.holds(board.yard)


if __name__ == "__main__":
    unittest.main()
