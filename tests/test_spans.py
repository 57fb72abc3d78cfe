"""Stage 6 [61], [62] and EXACT SPANS: what all best plans have in common, and the sets that tell why."""

import itertools
import random
import unittest

from evenloads.best import best_plan, is_best, levels
from evenloads.errors import OutOfSpan
from evenloads.plans import Plan
from evenloads.ratios import Ratio
from evenloads.spans import cap, capping_set, claim, least_places, lift, lifting_set, plan_giving, room, span
from evenloads.spans import spare_places, sure_places
from evenloads.yards import Yard
from helpers import CHANGES, Case, example, names
from oracles import drawn_plan, drawn_yard, even_yard, exact, great_yards, in_time, ratio, searched_cap, searched_claim
from oracles import searched_least_places, searched_lift, searched_loads, searched_room, searched_span, subsets

LONG = 10 ** 30 - 1
LITTLE = Ratio(1, LONG)


def square():
    """Two servers that two tasks share, and a third server by itself."""
    return Yard({"a": 1, "b": 1, "c": 1}, {"x": (2, ["a", "b"]), "y": (1, ["a", "b"]), "z": (1, ["b", "c"])})


class SpansCase(Case):

    def holds(self, yard):
        """All that is told of a yard's best plans is so: beside a search through all sets, and by plans."""
        loads = searched_loads(yard)
        sure, spare = [], []
        for task in yard.tasks():
            self.assertEqual(least_places(yard, task), searched_least_places(yard, task, loads))
            for server in yard.places(task):
                least, greatest = searched_span(yard, task, server, loads)
                found = span(yard, task, server)
                self.assertIs(found.__class__, tuple)
                self.assertEqual(found, (ratio(least), ratio(greatest)))
                if least > 0:
                    sure.append((task, server))
                if greatest == 0:
                    spare.append((task, server))
                self.has_sets(yard, task, server, least, greatest)
                self.has_plans(yard, task, server, least, greatest)
        self.assertEqual(sure_places(yard), sure)
        self.assertEqual(spare_places(yard), spare)

    def has_sets(self, yard, task, server, least, greatest):
        """Sets cap and lift to just the ends, or are None where the document says so."""
        loads = searched_loads(yard)
        capping, lifting = capping_set(yard, task, server), lifting_set(yard, task, server)
        if server not in searched_least_places(yard, task, loads) or greatest == exact(yard.work(task)):
            self.assertIsNone(capping)
        else:
            self.assertIs(capping.__class__, list)
            self.assertEqual(capping, sorted(set(capping)))
            self.assertEqual(cap(yard, task, server, capping), ratio(greatest))
            self.assertEqual(searched_cap(yard, task, server, capping, loads), greatest)
        if least == 0:
            self.assertIsNone(lifting)
        else:
            self.assertIs(lifting.__class__, list)
            self.assertEqual(lifting, sorted(set(lifting)))
            self.assertEqual(lift(yard, task, server, lifting), ratio(least))
            self.assertEqual(searched_lift(yard, task, server, lifting, loads), least)

    def has_plans(self, yard, task, server, least, greatest):
        """Best plans have both ends and what is between; none has anything beyond."""
        for amount in {least, greatest, (least + greatest) / 2, (3 * least + greatest) / 4}:
            plan = plan_giving(yard, task, server, ratio(amount))
            self.assertIs(plan.__class__, Plan)
            self.assertTrue(plan.yard == yard)
            self.assertEqual(exact(plan[task, server]), amount)
            self.assertIs(is_best(plan), True)
        for amount in (ratio(least) - LITTLE, ratio(greatest) + LITTLE, ratio(least) - 1, ratio(greatest) + 1, LONG):
            self.fails(OutOfSpan, {"value": amount}, plan_giving, yard, task, server, amount)


class SpanTest(SpansCase):

    def test_the_documents_example(self):
        yard = example()
        self.assertEqual(least_places(yard, "x"), ["a", "b"])
        self.assertEqual(least_places(yard, "y"), ["c"])
        self.assertEqual(span(yard, "x", "a"), (Ratio(3), Ratio(3)))
        self.assertEqual(span(yard, "y", "b"), (Ratio(0), Ratio(0)))
        self.assertEqual(span(yard, "y", "c"), (Ratio(2), Ratio(2)))
        self.assertEqual(sure_places(yard), [("x", "a"), ("x", "b"), ("y", "c"), ("z", "c")])
        self.assertEqual(spare_places(yard), [("y", "b")])
        self.holds(yard)

    def test_two_tasks_that_share_two_servers(self):
        yard = square()
        for server in "ab":
            self.assertEqual(span(yard, "x", server), (Ratio(1, 2), Ratio(3, 2)))
            self.assertEqual(span(yard, "y", server), (Ratio(0), Ratio(1)))
        self.assertEqual(sure_places(yard), [("x", "a"), ("x", "b"), ("z", "c")])
        self.assertEqual(spare_places(yard), [("z", "b")])
        for server in "ab":
            self.assertEqual(capping_set(yard, "x", server), [server])
            self.assertEqual(lifting_set(yard, "x", server), ["b" if server == "a" else "a"])
            self.assertIsNone(capping_set(yard, "y", server))
            self.assertIsNone(lifting_set(yard, "y", server))
        self.holds(yard)

    def test_a_task_with_a_single_least_place(self):
        yard = example()
        for task, server in [("y", "c"), ("z", "c")]:
            self.assertEqual(lifting_set(yard, task, server), [])
            self.assertEqual(lift(yard, task, server, []), yard.work(task))
            self.assertEqual(lift(yard, task, server, ()), yard.work(task))
            self.assertIsNone(capping_set(yard, task, server))
        self.assertIsNone(lifting_set(yard, "y", "b"))
        self.assertIsNone(capping_set(yard, "y", "b"))

    def test_a_task_with_a_single_place(self):
        yard = Yard({"a": 3}, {"x": (Ratio(7, 2), ["a"]), "y": (0, ["a"])})
        self.assertEqual(span(yard, "x", "a"), (Ratio(7, 2), Ratio(7, 2)))
        self.assertEqual(span(yard, "y", "a"), (Ratio(0), Ratio(0)))
        self.assertEqual((sure_places(yard), spare_places(yard)), ([("x", "a")], [("y", "a")]))
        self.holds(yard)

    def test_works_of_0(self):
        yard = Yard({"a": 1, "b": 1}, {"w": (0, ["a"]), "x": (0, ["a", "b"]), "y": (4, ["a", "b"])})
        for task, server in [("w", "a"), ("x", "a"), ("x", "b")]:
            self.assertEqual(span(yard, task, server), (Ratio(0), Ratio(0)))
            self.assertIsNone(capping_set(yard, task, server))
            self.assertIsNone(lifting_set(yard, task, server))
        self.assertEqual(spare_places(yard), [("w", "a"), ("x", "a"), ("x", "b")])
        self.assertEqual(sure_places(yard), [("y", "a"), ("y", "b")])
        self.holds(yard)
        self.holds(yard.scaled(0))

    def test_without_tasks(self):
        for yard in (Yard({"a": 1}), Yard({"a": 2, "b": 3})):
            self.assertEqual((sure_places(yard), spare_places(yard)), ([], []))
            self.assertEqual(room(yard, yard.servers()), Ratio(0))

    def test_a_ring_of_servers(self):
        servers = "abcdef"
        tasks = {"t" + one: (1, [one, other]) for one, other in zip(servers, servers[1:] + servers[0])}
        yard = Yard({server: 1 for server in servers}, tasks)
        for task in tasks:
            for place in yard.places(task):
                self.assertEqual(span(yard, task, place), (Ratio(0), Ratio(1)))
        self.assertEqual((sure_places(yard), spare_places(yard)), ([], []))
        self.holds(yard.with_work("ta", Ratio(3, 2)).with_work("tc", Ratio(1, 2)))

    def test_beside_a_search_through_all_sets(self):
        chance = random.Random(81)
        for _ in range(60):
            self.holds(drawn_yard(chance))

    def test_beside_a_search_in_yards_with_large_levels(self):
        chance = random.Random(82)
        inner = 0
        for _ in range(50):
            yard = even_yard(chance)
            self.holds(yard)
            for task in yard.tasks():
                for server in yard.places(task):
                    least, greatest = span(yard, task, server)
                    inner = inner + (0 < exact(least) < exact(greatest) < exact(yard.work(task)))
        self.assertGreater(inner, 10)

    def test_no_best_plan_is_beyond(self):
        chance = random.Random(83)
        for _ in range(60):
            yard = even_yard(chance)
            plan = best_plan(yard)
            for task in yard.tasks():
                for server in yard.places(task):
                    least, greatest = span(yard, task, server)
                    other = plan_giving(yard, task, server, chance.choice([least, greatest]))
                    mixed = plan.mix(other, Ratio(chance.randint(0, 7), 7))
                    self.assertIs(is_best(mixed), True)
                    for second, place in itertools.product(yard.tasks(), yard.servers()):
                        if place in yard.places(second):
                            low, high = span(yard, second, place)
                            self.assertLessEqual(low.compare(mixed[second, place]), 0)
                            self.assertLessEqual(mixed[second, place].compare(high), 0)

    def test_yards_that_were_changed(self):
        yard = example()
        for change in CHANGES:
            before = [span(yard, task, place) for task in yard.tasks() for place in yard.places(task)]
            later = change(yard)
            self.holds(later)
            self.assertEqual([span(yard, task, place) for task in yard.tasks() for place in yard.places(task)], before)
            yard = later

    def test_by_name(self):
        yard = square()
        self.assertEqual(least_places(task="x", yard=yard), ["a", "b"])
        self.assertEqual(span(server="a", task="x", yard=yard), (Ratio(1, 2), Ratio(3, 2)))
        self.assertEqual(room(servers=["a"], yard=yard), Ratio(3, 2))
        self.assertEqual(claim(servers=["a", "b"], task="x", yard=yard), Ratio(1))
        self.assertEqual(cap(servers=["a"], server="a", task="x", yard=yard), Ratio(3, 2))
        self.assertEqual(lift(servers=["b"], server="a", task="x", yard=yard), Ratio(1, 2))
        self.assertEqual(capping_set(server="a", task="x", yard=yard), ["a"])
        self.assertEqual(lifting_set(server="a", task="x", yard=yard), ["b"])
        self.assertEqual(sure_places(yard=yard), sure_places(yard))
        self.assertEqual(spare_places(yard=yard), spare_places(yard))
        self.assertEqual(plan_giving(amount=1, server="a", task="x", yard=yard)["x", "a"], Ratio(1))

    def test_what_is_returned_is_new_each_time(self):
        yard = square()
        for call in (lambda: least_places(yard, "x"), lambda: capping_set(yard, "x", "a"),
                     lambda: lifting_set(yard, "x", "a"), lambda: sure_places(yard), lambda: spare_places(yard)):
            found = call()
            call().clear()
            self.assertEqual(call(), found)
            self.assertIs(found.__class__, list)


class PlanGivingTest(SpansCase):

    def test_integers_and_ratios(self):
        for amount in (Ratio(1, 2), 1, Ratio(1), Ratio(3, 2), Ratio(7, 5), Ratio(1, 2) + LITTLE, Ratio(3, 2) - LITTLE):
            plan = plan_giving(square(), "x", "a", amount)
            self.assertEqual(plan["x", "a"], Ratio.of(amount))
            self.assertIs(is_best(plan), True)

    def test_amounts_a_little_outside(self):
        for amount in (0, -1, Ratio(1, 2) - LITTLE, Ratio(3, 2) + LITTLE, 2, LONG, -LONG):
            self.fails(OutOfSpan, {"value": amount}, plan_giving, square(), "x", "a", amount)

    def test_at_a_place_that_is_no_least_one(self):
        for amount in (0, Ratio(0)):
            plan = plan_giving(square(), "z", "b", amount)
            self.same_ratio(plan["z", "b"], 0)
            self.assertIs(is_best(plan), True)
        for amount in (LITTLE, -LITTLE, 1, -1):
            self.fails(OutOfSpan, {"value": amount}, plan_giving, square(), "z", "b", amount)


class SetsTest(SpansCase):

    def test_room_and_claim(self):
        yard = example()
        for servers, wanted in [([], 0), ((), 0), (["a"], 3), (["c"], 3), (["b", "a"], 6), (("c", "a"), 6),
                                (["c", "b", "a"], 9)]:
            self.same_ratio(room(yard, servers), wanted)
        for task, servers, wanted in [("x", [], 0), ("x", ["a", "b"], 0), ("y", ["b", "a"], 6), ("z", ("a", "b"), 6),
                                      ("z", ["a"], 0), ("x", ["c"], 3), ("y", ["c"], 1), ("z", ["c"], 2),
                                      ("y", ["c", "b", "a"], 7)]:
            self.same_ratio(claim(yard, task, servers), wanted)

    def test_cap_and_lift(self):
        yard = square()
        for servers, wanted in [(["a"], Ratio(3, 2)), (("c", "a"), Ratio(3, 2)), (["b"], None), ([], None),
                                (["a", "b"], None), (["b", "c", "a"], None)]:
            self.assertEqual(cap(yard, "x", "a", servers), wanted)
        for servers, wanted in [(["b"], Ratio(1, 2)), (["c", "b"], Ratio(1, 2)), (["a"], None), ([], None),
                                (["c"], None), (["a", "b"], None), (["b", "c", "a"], None)]:
            self.assertEqual(lift(yard, "x", "a", servers), wanted)

    def test_at_a_place_that_is_no_least_one(self):
        # The definitions ask only whether the server belongs to the set.
        yard = square()
        self.assertEqual(cap(yard, "z", "b", ["b"]), Ratio(3, 2))
        self.assertEqual(cap(yard, "z", "b", ["a", "b"]), Ratio(0))
        self.assertIsNone(cap(yard, "z", "b", ["b", "c"]))
        self.assertIsNone(cap(yard, "z", "b", ["a"]))
        self.assertEqual(lift(yard, "z", "b", ["c"]), Ratio(0))
        self.assertIsNone(lift(yard, "z", "b", ["a"]))
        self.assertIsNone(lift(yard, "z", "b", ["b", "c"]))

    def test_all_sets_in_any_sequence(self):
        chance = random.Random(84)
        for _ in range(25):
            yard = chance.choice([drawn_yard, even_yard])(chance)
            loads = searched_loads(yard)
            for servers in subsets(yard.servers(), least=0):
                chance.shuffle(servers)
                passed = chance.choice([list, tuple])(servers)
                self.assertEqual(exact(room(yard, passed)), searched_room(yard, servers, loads))
                for task in yard.tasks():
                    self.assertEqual(exact(claim(yard, task, passed)), searched_claim(yard, task, servers, loads))
                    server = chance.choice(yard.places(task))
                    for call, search in [(cap, searched_cap), (lift, searched_lift)]:
                        wanted = search(yard, task, server, servers, loads)
                        found = call(yard, task, server, passed)
                        self.assertEqual(found, None if wanted is None else ratio(wanted))

    def test_caps_and_lifts_hold_for_best_plans(self):
        chance = random.Random(85)
        for _ in range(20):
            yard = even_yard(chance)
            plan = best_plan(yard)
            for servers in subsets(yard.servers(), least=0):
                for task in yard.tasks():
                    for server in yard.places(task):
                        most, least = cap(yard, task, server, servers), lift(yard, task, server, servers)
                        if most is not None:
                            self.assertLessEqual(plan[task, server].compare(most), 0)
                        if least is not None:
                            self.assertGreaterEqual(plan[task, server].compare(least), 0)


class GreatTest(SpansCase):

    def test_great_yards(self):
        for yard in great_yards(random.Random(86)):
            sure, spare = in_time(self, sure_places, yard), in_time(self, spare_places, yard)
            everywhere = [(task, server) for task in yard.tasks() for server in yard.places(task)]
            for task, server in everywhere[::7]:
                least, greatest = in_time(self, span, yard, task, server)
                self.assertEqual((least.top > 0, greatest.top == 0), ((task, server) in sure, (task, server) in spare))
                capping = in_time(self, capping_set, yard, task, server)
                lifting = in_time(self, lifting_set, yard, task, server)
                if server not in in_time(self, least_places, yard, task):
                    self.assertEqual((capping, lifting, greatest), (None, None, Ratio(0)))
                else:
                    self.assertEqual(greatest, yard.work(task) if capping is None
                                     else in_time(self, cap, yard, task, server, capping))
                self.assertEqual(least, Ratio(0) if lifting is None
                                 else in_time(self, lift, yard, task, server, lifting))
                for amount in (least, greatest, (least + greatest).over(2)):
                    plan = in_time(self, plan_giving, yard, task, server, amount)
                    self.assertEqual(plan[task, server], amount)
                    self.assertIs(is_best(plan), True)
                self.fails(OutOfSpan, {"value": greatest + LITTLE}, plan_giving, yard, task, server, greatest + LITTLE)

    def test_a_great_yard_of_one_level(self):
        servers, chance = names("s", 12), random.Random(87)
        yard = Yard({server: 1 for server in servers},
                    {task: (chance.randint(10 ** 29, 10 ** 30 - 1), servers) for task in names("t", 24)})
        self.assertEqual(len(levels(yard)), 1)
        self.assertEqual(in_time(self, spare_places, yard), [])
        self.assertEqual(in_time(self, sure_places, yard), [])
        bound = yard.total.over(12)
        for task in yard.tasks():
            wanted = bound if yard.work(task).compare(bound) > 0 else yard.work(task)
            self.assertEqual(in_time(self, span, yard, task, "sd"), (Ratio(0), wanted))

    def test_drawn_plans_of_great_yards_are_led_into_the_spans(self):
        chance = random.Random(88)
        for yard in great_yards(chance)[:2]:
            self.assertIs(is_best(drawn_plan(yard, chance).mix(best_plan(yard), 0)), True)


if __name__ == "__main__":
    unittest.main()
