"""Stage 8 [81] to [84] and WHOLE JOBS NEARBY: best assignments, ways, heights, places and distances."""

import random
import unittest

from evenloads.best import best_loads
from evenloads.errors import InvalidAssignment, InvalidYard, NotWhole
from evenloads.evening import best_assignment, best_counts, certain_places, distance, heights, is_even, is_heights
from evenloads.evening import nearest_best, possible_places, steep_way, ways_to_best
from evenloads.jobs import Assignment
from evenloads.moves import Move
from evenloads.ratios import Ratio
from evenloads.yards import Yard
from helpers import JOB_CHANGES, NO_ASSIGNMENTS, NO_YARDS, STRANGE, Case, example, jobs_example
from oracles import all_spots, drawn_jobs, drawn_spots, great_jobs, in_time

# Convex functions whose sums only best assignments have the least of: it is the least for each of them.
CONVEX = [lambda count: count * count, lambda count: 3 ** count, lambda count: max(0, count - 1),
          lambda count: max(0, count - 2), lambda count: abs(2 * count - 3), lambda count: -count]


def counts_of(yard, spots):
    """The ascending list of the counts of a dict of spots."""
    return sorted(list(spots.values()).count(server) for server in yard.servers())


def searched_best(yard):
    """All best dicts of spots, by trying all of them with several convex functions."""
    found = list(all_spots(yard))
    for function in CONVEX:
        sums = [sum(function(count) for count in counts_of(yard, spots)) for spots in found]
        found = [spots for spots, total in zip(found, sums) if total == min(sums)]
    return found


def apart(spots, other):
    """How many jobs are elsewhere in another dict of spots."""
    return sum(spots[job] != other[job] for job in spots)


class EveningCase(Case):

    def is_steep(self, assignment, way):
        """A value is a steep way of an assignment."""
        self.assertIs(way.__class__, list)
        self.assertTrue(all(move.__class__ is Move for move in way))
        self.assertIs(assignment.is_way(way), True)
        counts = assignment.counts()
        self.assertGreaterEqual(counts[way[0].start], counts[way[-1].goal] + 2)

    def leads(self, assignment):
        """Ways lead an assignment to a best one; return how many."""
        spots, current, many = assignment.spots(), assignment, 0
        for way in ways_to_best(assignment):
            self.assertIs(is_even(current), False)
            self.is_steep(current, way)
            current, many = current.taken(way), many + 1
        self.assertIs(is_even(current), True)
        self.assertEqual(sorted(current.counts().values()), best_counts(assignment.yard))
        self.assertEqual(assignment.spots(), spots)
        return many


class BestTest(EveningCase):

    def holds(self, yard):
        """Best assignments, places and distances are those of trying all."""
        best = searched_best(yard)
        self.assertEqual({tuple(counts_of(yard, spots)) for spots in best}, {tuple(best_counts(yard))})
        found = best_assignment(yard)
        self.assertIs(found.__class__, Assignment)
        self.assertTrue(found.yard == yard)
        self.assertIn(found.spots(), best)
        places = sorted({item for spots in best for item in spots.items()})
        self.assertEqual(possible_places(yard), places)
        self.assertEqual(certain_places(yard),
                         [(job, place) for job, place in places if all(spots[job] == place for spots in best)])
        for spots in all_spots(yard):
            self.holds_for(Assignment(yard, spots), best)

    def holds_for(self, assignment, best):
        """What is told of an assignment is what is found by trying all."""
        spots = assignment.spots()
        self.assertIs(is_even(assignment), spots in best)
        self.assertEqual(steep_way(assignment) is None, spots in best)
        self.assertEqual(list(ways_to_best(assignment)) == [], spots in best)
        if spots not in best:
            self.is_steep(assignment, steep_way(assignment))
        wanted = min(apart(spots, other) for other in best)
        self.same_integer(distance(assignment), wanted)
        near = nearest_best(assignment)
        self.assertIs(near.__class__, Assignment)
        self.assertTrue(near.yard == assignment.yard)
        self.assertIn(near.spots(), best)
        self.assertEqual(apart(spots, near.spots()), wanted)
        self.assertEqual(assignment.spots(), spots)

    def test_ordinary(self):
        yard = jobs_example()
        self.assertEqual(best_counts(yard), [1, 1, 2])
        self.assertEqual(best_counts(yard=yard), [1, 1, 2])
        assignment = Assignment(yard, {"o": "a", "p": "a", "q": "a", "r": "c"})
        self.assertIs(is_even(assignment), False)
        self.assertIn([str(move) for move in steep_way(assignment)], [["o: a to b"], ["q: a to b"]])
        self.assertEqual(distance(assignment=assignment), 1)
        self.assertIs(is_even(assignment=nearest_best(assignment=assignment)), True)
        self.assertIsNone(steep_way(assignment=best_assignment(yard=yard)))
        self.assertEqual(certain_places(yard=yard), [("p", "a")])
        self.assertEqual(possible_places(yard=yard), [("o", "a"), ("o", "b"), ("o", "c"), ("p", "a"), ("q", "a"),
                                                      ("q", "b"), ("r", "a"), ("r", "c")])
        self.holds(yard)

    def test_beside_trying_all(self):
        chance = random.Random(94)
        for _ in range(80):
            self.holds(drawn_jobs(chance))

    def test_without_jobs(self):
        for many in (1, 2, 12):
            yard = Yard.jobs(list("abcdefghijkl"[:many]))
            self.assertEqual(best_counts(yard), [0] * many)
            self.assertEqual((possible_places(yard), certain_places(yard)), ([], []))
            assignment = best_assignment(yard)
            self.assertEqual(assignment.spots(), {})
            self.assertEqual(heights(assignment), {server: 0 for server in yard.servers()})
            self.assertEqual((is_even(assignment), steep_way(assignment), distance(assignment)), (True, None, 0))
            self.assertTrue(nearest_best(assignment) == assignment)
            self.assertEqual(list(ways_to_best(assignment)), [])

    def test_a_single_server(self):
        yard = Yard.jobs(["a"], p=["a"], q=["a"])
        self.holds(yard)
        self.assertEqual(certain_places(yard), [("p", "a"), ("q", "a")])

    def test_yards_that_were_changed(self):
        yard = jobs_example()
        for change in JOB_CHANGES:
            before = possible_places(yard)
            later = change(yard)
            self.holds(later)
            self.assertEqual(possible_places(yard), before)
            yard = later

    def test_long_ways(self):
        # All jobs must go on by one server for the last one to get one.
        servers = "abcdefghijkl"
        tasks = {"j" + one: [one, two] for one, two in zip(servers, servers[1:])}
        yard = Yard.jobs(list(servers), **tasks, z=["a"])
        assignment = Assignment(yard, {job: "a" if job == "z" else job[1] for job in yard.tasks()})
        self.assertEqual(assignment.counts()["a"], 2)
        self.assertEqual(len(steep_way(assignment)), 11)
        self.assertEqual(distance(assignment), 11)
        self.leads(assignment)
        self.assertEqual(certain_places(yard), sorted([("z", "a"), *[(job, places[1]) for job, places in tasks.items()]]))

    def test_the_best_counts_are_the_best_loads_rounded(self):
        chance = random.Random(95)
        for yard in [drawn_jobs(chance, 6, 9) for _ in range(60)] + great_jobs(chance):
            loads = best_loads(yard)
            for assignment in (best_assignment(yard), nearest_best(Assignment(yard, drawn_spots(yard, chance)))):
                for server, count in assignment.counts().items():
                    self.assertIn(count, [loads[server].floor(), loads[server].ceiling()])

    def test_great_yards(self):
        chance = random.Random(96)
        for yard in great_jobs(chance):
            best = in_time(self, best_assignment, yard)
            counts = in_time(self, best_counts, yard)
            self.assertEqual(sorted(best.counts().values()), counts)
            possible = in_time(self, possible_places, yard)
            certain = in_time(self, certain_places, yard)
            for job in yard.tasks():
                self.assertIn((job, best[job]), possible)
            for job, server in certain:
                self.assertEqual(best[job], server)
            for _ in range(4):
                assignment = Assignment(yard, drawn_spots(yard, chance))
                near = in_time(self, nearest_best, assignment)
                self.assertEqual(in_time(self, distance, assignment), apart(assignment.spots(), near.spots()))
                self.assertLessEqual(distance(assignment), apart(assignment.spots(), best.spots()))
                self.assertEqual(sorted(near.counts().values()), counts)
                in_time(self, lambda: self.leads(assignment))
                self.assertTrue(all((job, near[job]) in possible for job in yard.tasks()))
                self.assertEqual(in_time(self, heights, assignment) is None, not in_time(self, is_even, assignment))


class WaysTest(EveningCase):

    def test_ways_lead_to_best_assignments(self):
        chance = random.Random(97)
        counts = []
        for _ in range(150):
            yard = drawn_jobs(chance, 5, 8)
            counts.append(self.leads(Assignment(yard, drawn_spots(yard, chance))))
        self.assertIn(0, counts)
        self.assertGreater(max(counts), 2)

    def test_one_at_a_time(self):
        yard = Yard.jobs(list("abc"), o=["a", "b"], p=["a", "c"], q=["a", "b", "c"], r=["a"], s=["a", "c"])
        assignment = Assignment(yard, {job: "a" for job in yard.tasks()})
        wanted = list(ways_to_best(assignment))
        self.assertGreater(len(wanted), 1)
        one, other = ways_to_best(assignment), ways_to_best(assignment=assignment)
        self.assertIs(iter(one), one)
        current, found = assignment, []
        while not is_even(current):
            way = next(one)
            self.assertEqual(way, next(other))
            self.is_steep(current, way)
            found.append(list(way))
            current = current.taken(way)
            # What was yielded may be changed.
            way.clear()
        self.assertIsNone(next(one, None))
        self.assertIsNone(next(one, None))
        self.assertEqual(found, wanted)
        other.close()

    def test_none_for_a_best_assignment(self):
        chance = random.Random(98)
        for _ in range(40):
            self.assertEqual(list(ways_to_best(best_assignment(drawn_jobs(chance)))), [])


class HeightsTest(EveningCase):

    def searched_heights(self, assignment):
        """All dicts of heights, by trying all counts and counts plus 1."""
        counts, found = assignment.counts(), [{}]
        for server, count in counts.items():
            found = [{**one, server: count + more} for one in found for more in (0, 1)]
        return [one for one in found if all(one[place] >= one[assignment[job]] for job in assignment.yard.tasks()
                                            for place in assignment.yard.places(job))]

    def test_beside_trying_all(self):
        chance = random.Random(99)
        told = []
        for _ in range(200):
            yard = drawn_jobs(chance)
            assignment = Assignment(yard, drawn_spots(yard, chance))
            wanted = self.searched_heights(assignment)
            found = heights(assignment)
            told.append(found is None)
            self.assertEqual(found is None, wanted == [])
            self.assertIs(found is None, not is_even(assignment))
            if found is not None:
                self.assertEqual(list(found), yard.servers())
                self.assertTrue(all(value.__class__ is int for value in found.values()))
                self.assertEqual(found, {server: min(one[server] for one in wanted) for server in found})
                self.assertIn(found, wanted)
                self.assertEqual(heights(assignment=assignment), found)
            # Every dict of small numbers is one of heights or not.
            for more in (0, 1, 2, -1):
                for server in yard.servers():
                    value = {**assignment.counts(), server: assignment.counts()[server] + more}
                    self.assertIs(is_heights(assignment, value), value in wanted)
            for value in wanted:
                self.assertIs(is_heights(assignment, value), True)
                self.assertIs(is_heights(value=value, assignment=assignment), True)
                self.assertIs(is_heights(assignment, {server: value[server] for server in reversed(value)}), True)
        self.assertGreater(min(told.count(True), told.count(False)), 40)

    def test_least_heights(self):
        yard = Yard.jobs(list("abc"), o=["a"], p=["a", "b"], q=["b", "c"])
        assignment = Assignment(yard, {"o": "a", "p": "b", "q": "c"})
        self.assertEqual(heights(assignment), {"a": 1, "b": 1, "c": 1})
        assignment = Assignment(yard.with_server("d", 1, "q"), {"o": "a", "p": "a", "q": "b"})
        self.assertIsNone(heights(assignment))
        assignment = Assignment(yard, {"o": "a", "p": "a", "q": "b"})
        self.assertIsNone(heights(assignment))
        self.assertEqual(heights(Assignment(yard, {"o": "a", "p": "a", "q": "c"})), None)
        yard = Yard.jobs(list("abc"), o=["a"], p=["a", "b"], q=["b"], r=["b", "c"], s=["c"])
        self.assertEqual(heights(Assignment(yard, {"o": "a", "p": "a", "q": "b", "r": "c", "s": "c"})),
                         {"a": 2, "b": 2, "c": 2})
        self.assertEqual(heights(Assignment(yard, {"o": "a", "p": "b", "q": "b", "r": "c", "s": "c"})),
                         {"a": 2, "b": 2, "c": 2})
        self.assertEqual(heights(Assignment(yard.without_place("p", "b"),
                                            {"o": "a", "p": "a", "q": "b", "r": "b", "s": "c"})),
                         {"a": 2, "b": 2, "c": 2})
        self.assertEqual(heights(Assignment(yard.without_place("p", "a").without_place("r", "b"),
                                            {"o": "a", "p": "b", "q": "b", "r": "c", "s": "c"})),
                         {"a": 1, "b": 2, "c": 2})

    def test_values_of_any_kind(self):
        assignment = best_assignment(jobs_example())
        right = heights(assignment)
        self.assertIs(is_heights(assignment, right), True)
        wrong = STRANGE + [0, "", "abc", [], (), {}, Ratio(1), list(right), list(right.items()), tuple(right.items()),
                           assignment, {**right, "d": 1}, {**right, None: 1}, {**right, "p": 1}]
        for server in right:
            fewer = {other: right[other] for other in right if other != server}
            wrong.extend([fewer, {**fewer, "d": right[server]}, {**fewer, server + "a": right[server]}])
            for value in STRANGE + ["1", [], {}, Ratio(right[server]), right[server] + 2, right[server] - 2, -1,
                                    str(right[server]), 10 ** 29]:
                wrong.append({**right, server: value})
        for value in wrong:
            self.assertIs(is_heights(assignment, value), False)

    def test_truths_are_no_heights(self):
        assignment = Assignment(Yard.jobs(["a", "b"], p=["a"], q=["b"]), {"p": "a", "q": "b"})
        self.assertIs(is_heights(assignment, {"a": 1, "b": 1}), True)
        for value in ({"a": True, "b": 1}, {"a": 1, "b": True}, {"a": Ratio(1), "b": 1}, {"a": 1, "b": Ratio(1)}):
            self.assertIs(is_heights(assignment, value), False)
        empty = Assignment(Yard.jobs(["a"]), {})
        self.assertIs(is_heights(empty, {"a": 0}), True)
        self.assertIs(is_heights(empty, {"a": 1}), True)
        self.assertIs(is_heights(empty, {"a": False}), False)
        self.assertIs(is_heights(empty, {"a": True}), False)


class ErrorsTest(EveningCase):

    def test_values_that_are_no_yards(self):
        for value in NO_YARDS:
            for call in (best_assignment, best_counts, possible_places, certain_places):
                self.fails(InvalidYard, {"value": value}, call, value)
                self.fails(InvalidYard, {"value": value}, call, yard=value)

    def test_yards_that_are_not_whole(self):
        for yard in (example(), jobs_example().with_work("p", 2), jobs_example().with_work("p", 0), Yard({"a": 2}),
                     jobs_example().with_speed("c", 2), jobs_example().scaled(Ratio(1, 2))):
            for call in (best_assignment, best_counts, possible_places, certain_places):
                self.fails(NotWhole, {"value": yard}, call, yard)

    def test_values_that_are_no_assignments(self):
        for value in NO_ASSIGNMENTS:
            for call in (is_even, steep_way, heights, distance, nearest_best):
                self.fails(InvalidAssignment, {"value": value}, call, value)
                self.fails(InvalidAssignment, {"value": value}, call, assignment=value)
            self.fails(InvalidAssignment, {"value": value}, is_heights, value, {})
            self.fails(InvalidAssignment, {"value": value}, is_heights, value, None)
            # The error comes when the iteration begins.
            ways = ways_to_best(value)
            self.fails(InvalidAssignment, {"value": value}, next, ways)
            self.fails(InvalidAssignment, {"value": value}, list, ways_to_best(assignment=value))


if __name__ == "__main__":
    unittest.main()
