"""Stage 8 [81], [82]: assignments of whole jobs, their steps and ways."""

import itertools
import random
import unittest

from evenloads.errors import InvalidAssignment, InvalidMoves, InvalidYard, NotWhole, UnknownServer, UnknownTask
from evenloads.jobs import Assignment
from evenloads.moves import Gift, Move
from evenloads.plans import Plan
from evenloads.ratios import Ratio
from evenloads.yards import Yard
from helpers import JOB_CHANGES, NO_NAMES, NO_YARDS, STRANGE, Case, example, jobs_example
from oracles import drawn_jobs, drawn_spots, great_jobs, in_time

SPOTS = {"o": "a", "p": "a", "q": "a", "r": "c"}


def assigned():
    """An assignment of the whole yard of the helpers: three jobs at a, none at b, one at c."""
    return Assignment(jobs_example(), SPOTS)


def all_steps(assignment):
    """All steps by the words of the document."""
    spots, yard = assignment.spots(), assignment.yard
    return [Move(job, spots[job], place) for job in sorted(spots) for place in sorted(yard.places(job))
            if place != spots[job]]


def follows(assignment, moves):
    """Whether Moves are a way, by the words of the document."""
    if not moves or not all(move in all_steps(assignment) for move in moves):
        return False
    servers = [moves[0].start] + [move.goal for move in moves]
    meets = all(one.goal == two.start for one, two in zip(moves, moves[1:]))
    jobs = [move.task for move in moves]
    return meets and len(set(servers)) == len(servers) and len(set(jobs)) == len(jobs)


class AssignmentTest(Case):

    def holds(self, assignment, spots):
        """All that an assignment tells is that of these spots."""
        yard = assignment.yard
        self.assertEqual(list(assignment.spots().items()), sorted(spots.items()))
        self.assertEqual([assignment[job] for job in spots], [spots[job] for job in spots])
        counts = assignment.counts()
        self.assertEqual(list(counts), yard.servers())
        for server in yard.servers():
            jobs = sorted(job for job in spots if spots[job] == server)
            self.assertEqual(assignment.jobs_at(server), jobs)
            self.same_integer(counts[server], len(jobs))
        self.assertEqual(assignment.steps(), all_steps(assignment))
        self.assertEqual(assignment.steps(), [move for move in assignment.steps() if move.__class__ is Move])
        plan = assignment.as_plan()
        self.assertIs(plan.__class__, Plan)
        self.assertTrue(plan.yard == yard)
        self.assertEqual(plan.amounts(), {(job, spots[job]): Ratio(1) for job in spots})
        self.assertEqual(plan.loads(), {server: Ratio(counts[server]) for server in counts})

    def test_ordinary(self):
        assignment = Assignment(spots=SPOTS, yard=jobs_example())
        self.holds(assignment, SPOTS)
        self.assertEqual(assignment.counts(), {"a": 3, "b": 0, "c": 1})
        self.assertEqual(assignment.jobs_at("a"), ["o", "p", "q"])
        self.assertEqual(assignment.jobs_at(server="b"), [])
        self.assertEqual([str(move) for move in assignment.steps()],
                         ["o: a to b", "o: a to c", "q: a to b", "r: c to a"])
        self.assertTrue(assignment.yard == jobs_example())

    def test_drawn_and_great_yards(self):
        chance = random.Random(91)
        for yard in [drawn_jobs(chance) for _ in range(60)] + great_jobs(chance):
            spots = drawn_spots(yard, chance)
            self.holds(in_time(self, Assignment, yard, spots), spots)

    def test_without_jobs(self):
        assignment = Assignment(Yard({"a": 1, "b": 1}), {})
        self.holds(assignment, {})
        self.assertEqual((assignment.spots(), assignment.steps(), assignment.counts()), ({}, [], {"a": 0, "b": 0}))

    def test_yards_that_were_changed(self):
        chance, yard = random.Random(92), jobs_example()
        for change in JOB_CHANGES:
            before = Assignment(yard, drawn_spots(yard, chance))
            spots = before.spots()
            later = change(yard)
            now = drawn_spots(later, chance)
            self.holds(Assignment(later, now), now)
            self.holds(before, spots)
            yard = later

    def test_a_job_and_a_server_of_the_same_name(self):
        yard = Yard.jobs(["a", "b"], a=["b"], b=["a", "b"])
        self.holds(Assignment(yard, {"a": "b", "b": "a"}), {"a": "b", "b": "a"})

    def test_what_was_passed_or_returned_can_be_changed(self):
        spots = dict(SPOTS)
        assignment = Assignment(jobs_example(), spots)
        spots["q"] = "b"
        del spots["r"]
        assignment.spots().clear()
        assignment.counts()["a"] = 7
        assignment.steps().clear()
        assignment.jobs_at("a").append("r")
        assignment.as_plan().amounts().clear()
        self.holds(assignment, SPOTS)

    def test_the_sequence_of_the_keys_has_no_effect(self):
        for keys in itertools.permutations(SPOTS):
            found = Assignment(jobs_example(), {key: SPOTS[key] for key in keys})
            self.assertTrue(found == assigned())
            self.holds(found, SPOTS)

    def test_equal(self):
        self.assertTrue(assigned() == assigned())
        self.assertFalse(assigned() != assigned())
        self.assertFalse(assigned() == Assignment(jobs_example(), {**SPOTS, "q": "b"}))
        # Unlike yards, in which the jobs are at the same servers.
        for yard in (jobs_example().with_place("p", "b"), jobs_example().with_server("d", 1),
                     jobs_example().without_place("q", "b")):
            self.assertFalse(assigned() == Assignment(yard, SPOTS))
        for value in STRANGE + [0, SPOTS, "a", jobs_example(), assigned().as_plan()]:
            self.assertFalse(assigned() == value)

    def test_it_is_not_iterated_over(self):
        for call in (iter, list, sorted, lambda value: "p" in value, lambda value: [*value]):
            self.assertRaises(TypeError, call, assigned())

    def test_values_that_are_no_yards(self):
        for value in NO_YARDS:
            self.fails(InvalidYard, {"value": value}, Assignment, value, {})
            self.fails(InvalidYard, {"value": value}, Assignment, spots=None, yard=value)

    def test_values_that_are_no_spots(self):
        wrong = STRANGE + [0, "", "a", [], ["a"], (), Ratio(1), {}, {"a": "a"}, jobs_example(), list(SPOTS.items()),
                           {**SPOTS, "x": "a"}, {**SPOTS, None: "a"}, {**SPOTS, ("p",): "a"}, assigned()]
        for job in SPOTS:
            fewer = {other: SPOTS[other] for other in SPOTS if other != job}
            wrong.extend([fewer, {**fewer, "x": "a"}, {**fewer, job + "x": "a"}])
            for value in NO_NAMES + ["d", "p", "ab", ["a"], ("a",), Move("p", "a", "b")]:
                wrong.append({**SPOTS, job: value})
        wrong.extend([{**SPOTS, "p": "b"}, {**SPOTS, "p": "c"}, {**SPOTS, "q": "c"}, {**SPOTS, "r": "b"}])
        for value in wrong:
            self.fails(InvalidAssignment, {"value": value}, Assignment, jobs_example(), value)

    def test_yards_that_are_not_whole(self):
        for yard in (example(), jobs_example().with_work("p", 2), jobs_example().with_work("q", 0),
                     jobs_example().with_work("o", Ratio(1, 2)), jobs_example().with_speed("c", 2),
                     jobs_example().scaled(3), Yard({"a": 2})):
            spots = {job: yard.places(job)[0] for job in yard.tasks()}
            self.fails(NotWhole, {"value": yard}, Assignment, yard, spots)
            # Wrong spots are told ahead of that.
            for value in (None, {**spots, "nojob": "a"}, {**spots, "p": "zz"}):
                self.fails(InvalidAssignment, {"value": value}, Assignment, yard, value)

    def test_jobs_and_servers_that_are_none(self):
        assignment = assigned()
        for value in NO_NAMES + ["a", "x", "pq", ("p",), ["p"], ("p", "a"), slice(1), Move("p", "a", "b")]:
            self.fails(UnknownTask, {"value": value}, lambda: assignment[value])
        for value in NO_NAMES + ["p", "d", "ab", ("a",), ["a"]]:
            self.fails(UnknownServer, {"value": value}, assignment.jobs_at, value)
            self.fails(UnknownServer, {"value": value}, assignment.jobs_at, server=value)


class WaysTest(Case):

    def holds(self, assignment, moves):
        """A list of Moves is a way just where it is one by the words of the document, and is taken then."""
        wanted = follows(assignment, moves)
        self.assertIs(assignment.is_way(list(moves)), wanted)
        self.assertIs(assignment.is_way(tuple(moves)), wanted)
        if not wanted:
            self.fails(InvalidMoves, {"position": None}, assignment.taken, list(moves))
            return 0
        spots = assignment.spots()
        found = assignment.taken(list(moves))
        self.assertIs(found.__class__, Assignment)
        self.assertTrue(found.yard == assignment.yard)
        self.assertEqual(found.spots(), {**spots, **{move.task: move.goal for move in moves}})
        self.assertEqual(assignment.spots(), spots)
        self.assertTrue(assignment.taken(tuple(moves)) == found)
        return 1

    def test_all_lists_of_few_moves(self):
        assignment = Assignment(Yard.jobs(list("abc"), o=["a", "b"], p=["b", "c"], q=["c", "a"], r=["a", "b", "c"]),
                                {"o": "a", "p": "b", "q": "c", "r": "a"})
        moves = assignment.steps() + [Move("o", "b", "a"), Move("p", "a", "b"), Move("r", "b", "c"), Move("z", "a", "b"),
                                      Move("o", "a", "c"), Move("p", "b", "d")]
        ways = [self.holds(assignment, value) for many in (0, 1, 2, 3) for value in itertools.product(moves, repeat=many)]
        self.assertGreater(sum(ways), 5)

    def test_long_ways(self):
        servers = "abcdefghijkl"
        yard = Yard.jobs(list(servers), **{"j" + one: [one, two] for one, two in zip(servers, servers[1:])}, ke=["e", "a"],
                         kl=["l", "a"])
        spots = {job: job[1] for job in yard.tasks()}
        assignment = Assignment(yard, spots)
        way = [Move("j" + one, one, two) for one, two in zip("abcde", "bcde")]
        self.assertEqual(self.holds(assignment, way), 1)
        back = [*way, Move("ke", "e", "a")]
        self.assertEqual(self.holds(assignment, back), 0)
        self.assertEqual(self.holds(assignment, back[1:]), 1)
        for at in range(len(way)):
            self.holds(assignment, way[:at] + way[at + 1:])
            self.holds(assignment, way[at:] + way[:at])
            self.holds(assignment, way[:at + 1] + [way[at]] + way[at + 1:])

    def test_moves_of_a_job_twice(self):
        assignment = Assignment(Yard.jobs(list("abc"), o=["a", "b", "c"], p=["a", "b", "c"]), {"o": "a", "p": "b"})
        for moves in ([Move("o", "a", "b"), Move("o", "b", "c")], [Move("o", "a", "b"), Move("o", "a", "c")],
                      [Move("o", "a", "b"), Move("p", "b", "a")], [Move("p", "b", "a"), Move("o", "a", "b")]):
            self.assertEqual(self.holds(assignment, moves), 0)
        self.assertEqual(self.holds(assignment, [Move("o", "a", "b"), Move("p", "b", "c")]), 1)

    def test_values_of_any_kind(self):
        assignment = assigned()
        step = Move("q", "a", "b")
        self.assertIs(assignment.is_way([step]), True)
        self.assertIs(assignment.is_way(value=[step]), True)
        self.assertTrue(assignment.taken(moves=[step]) == Assignment(jobs_example(), {**SPOTS, "q": "b"}))
        for value in STRANGE + [0, 1, "", "q", {}, [], (), step, iter([step]), [[step]], [[]], Ratio(1), Gift(1, step),
                                [Gift(1, step)], assignment, jobs_example()]:
            self.assertIs(assignment.is_way(value), False)
            self.fails(InvalidMoves, {"position": None}, assignment.taken, value)
        for other in STRANGE + [0, "q", ("q", "a", "b"), "q: a to b", [step], None, Gift(1, step)]:
            for value in ([other], [other, step], [step, other]):
                self.assertIs(assignment.is_way(value), False)
                self.fails(InvalidMoves, {"position": None}, assignment.taken, value)

    def test_places_and_jobs_that_are_none(self):
        for move in (Move("p", "a", "b"), Move("r", "a", "c"), Move("x", "a", "b"), Move("q", "a", "c"),
                     Move("q", "b", "a"), Move("q", "a", "d"), Move("q", "d", "a"), Move("a", "a", "b")):
            self.assertEqual(self.holds(assigned(), [move]), 0)

    def test_drawn_yards(self):
        chance = random.Random(93)
        ways = 0
        for _ in range(60):
            yard = drawn_jobs(chance)
            assignment = Assignment(yard, drawn_spots(yard, chance))
            steps = assignment.steps()
            for many in (1, 2, 3):
                for _ in range(8 if steps else 0):
                    ways = ways + self.holds(assignment, [chance.choice(steps) for _ in range(many)])
        self.assertGreater(ways, 100)


if __name__ == "__main__":
    unittest.main()
