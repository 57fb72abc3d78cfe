"""Stage 7 [71] to [74]: curves, risers and fallers, breaks, payers and relieved servers."""

import random
import unittest
from fractions import Fraction

from evenloads.best import best_loads
from evenloads.curves import Curve, payers, relieved
from evenloads.errors import InvalidNumber, InvalidWork, InvalidYard, TooMany, UnknownTask
from evenloads.ratios import Ratio
from evenloads.spans import least_places
from evenloads.ties import tight_set
from evenloads.yards import Yard
from helpers import BELOW, CHANGES, NO_AMOUNTS, NO_TASKS, NO_YARDS, Case, example, names
from oracles import drawn_yard, even_yard, exact, in_time, ratio, searched_loads

LONG = 10 ** 30 - 1
# Less than what lies between two breaks of the small yards here.
BIT = Fraction(1, 10 ** 15)


def rising_example():
    """The yard of the document's example of a curve."""
    return Yard({"q": 1, "s": 1}, {"t": (0, ["s"]), "u": (1, ["q", "s"]), "v": (5, ["q"])})


def searched_at(yard, task, work):
    """The best loads at a work, as Fractions, by a search through all sets."""
    return searched_loads(yard.with_work(task, ratio(work)))


def great_curves(chance):
    """Yards of eight servers and twelve tasks, with works of thirty digits and many places."""
    servers = names("s", 8)
    for most in (8, 3):
        for divided in (False, True):
            tasks = {}
            for task in names("t", 12):
                work = chance.randint(10 ** 29, LONG)
                tasks[task] = (Ratio(work, chance.randint(10 ** 29, LONG)) if divided else work,
                               chance.sample(servers, chance.randint(1, most)))
            yield Yard({server: chance.randint(1, 1000) for server in servers}, tasks)


def too_great(servers, tasks):
    """A yard with so many servers and tasks, among them one called x."""
    chosen = names("s", servers)
    return Yard({server: 1 for server in chosen},
                {task: (1, chosen[:2]) for task in (["x"] + names("t", tasks - 1) if tasks > 0 else [])})


class CurveTest(Case):

    def test_the_documents_example(self):
        curve = Curve(rising_example(), "t")
        self.assertEqual([(str(work), [str(load) for load in curve(work).values()], curve.risers(work))
                          for work in curve.breaks()],
                         [("0", ["5", "1"], ["s"]), ("4", ["5", "5"], ["q", "s"]), ("6", ["6", "6"], ["s"])])
        self.assertEqual([curve.fallers(4), str(curve.greatest_work(5)), str(curve.greatest_work(7)),
                          curve.greatest_work(1)], [["s"], "4", "7", None])

    def test_class_values_and_properties(self):
        self.assertEqual((Curve.MOST_SERVERS, Curve.MOST_TASKS), (8, 12))
        curve = Curve(task="t", yard=rising_example())
        self.assertEqual((curve.MOST_SERVERS, curve.MOST_TASKS, curve.task), (8, 12, "t"))
        self.assertTrue(curve.yard == rising_example())

    def test_loads_are_those_of_the_yard_with_this_work(self):
        chance = random.Random(71)
        for _ in range(40):
            yard = drawn_yard(chance) + ("x", chance.randint(0, 9), ["sa"])
            for task in yard.tasks():
                curve = Curve(yard, task)
                for work in (0, Ratio(0), chance.randint(1, 50), Ratio(chance.randint(1, 90), chance.randint(1, 9)),
                             LONG, Ratio(LONG, LONG - 1), Ratio(1, LONG)):
                    found = curve(work)
                    self.assertEqual(found, best_loads(yard.with_work(task, work)))
                    self.assertEqual({server: exact(load) for server, load in found.items()},
                                     searched_at(yard, task, exact(work)))
                    self.assertEqual(list(found), yard.servers())
        self.assertEqual(curve(work=3), curve(3))

    def test_the_yards_own_work_of_the_task_has_no_effect(self):
        for work in (0, 1, Ratio(7, 3), LONG):
            curve, other = Curve(rising_example(), "t"), Curve(rising_example().with_work("t", work), "t")
            self.assertEqual(list(curve.breaks()), list(other.breaks()))
            self.assertEqual(other.yard.work("t"), Ratio.of(work))
            for at in (0, 2, 4, Ratio(9, 2), 6, LONG):
                self.assertEqual((curve(at), curve.risers(at), curve.fallers(at)),
                                 (other(at), other.risers(at), other.fallers(at)))
                self.assertEqual(curve.greatest_work(at), other.greatest_work(at))

    def test_what_is_returned_is_new_each_time(self):
        curve = Curve(rising_example(), "t")
        for call in (lambda: curve(3), lambda: curve.risers(3), lambda: curve.fallers(3)):
            found = call()
            call().clear()
            self.assertEqual(call(), found)

    def test_yards_and_tasks_that_are_none(self):
        for value in NO_YARDS:
            self.fails(InvalidYard, {"value": value}, Curve, value, "x")
            for call in (Curve, payers, relieved):
                self.fails(InvalidYard, {"value": value}, call, task=None, yard=value)
        for value in NO_TASKS:
            for call in (Curve, payers, relieved):
                self.fails(UnknownTask, {"value": value}, call, example(), value)

    def test_limits(self):
        for servers, tasks in [(8, 12), (8, 1), (1, 12)]:
            yard = too_great(servers, tasks)
            self.assertEqual(Curve(yard, "x").task, "x")
            self.assertEqual(payers(yard, "x"), relieved(yard, "x"))
        for servers, tasks, what, limit in [(9, 12, "servers", 8), (12, 1, "servers", 8), (8, 13, "tasks", 12),
                                            (1, 24, "tasks", 12), (9, 13, "servers", 8), (12, 24, "servers", 8)]:
            yard = too_great(servers, tasks)
            for call in (Curve, payers, relieved):
                self.fails(TooMany, {"what": what, "limit": limit}, call, yard, "x")
                self.fails(UnknownTask, {"value": "q"}, call, yard, "q")
                self.fails(UnknownTask, {"value": None}, call, yard, None)

    def test_works_and_bounds_that_are_none(self):
        curve = Curve(rising_example(), "t")
        for value in NO_AMOUNTS:
            for call in (curve, curve.risers, curve.fallers):
                self.fails(InvalidWork, {"value": value}, call, value)
                self.fails(InvalidWork, {"value": value}, call, work=value)
            self.fails(InvalidNumber, {"value": value}, curve.greatest_work, value)
            self.fails(InvalidNumber, {"value": value}, curve.greatest_work, bound=value)


class RisersTest(Case):

    def holds(self, yard, task, work):
        """Risers and fallers are the servers whose loads differ a bit behind and ahead of a work."""
        curve, at = Curve(yard, task), searched_at(yard, task, work)
        ahead = searched_at(yard, task, work + BIT)
        risers = [server for server in yard.servers() if ahead[server] > at[server]]
        self.assertEqual(curve.risers(ratio(work)), risers)
        speed = sum(yard.speed(server) for server in risers)
        self.assertEqual(len({at[server] for server in risers}), 1)
        for server in risers:
            self.assertEqual(ahead[server] - at[server], BIT / speed)
        fallers = []
        if work > 0:
            behind = searched_at(yard, task, work - BIT)
            fallers = [server for server in yard.servers() if behind[server] < at[server]]
            self.assertEqual(len({at[server] for server in fallers}), 1)
        self.assertEqual(curve.fallers(ratio(work)), fallers)
        # The risers are the least tight set with all least places, so of them one by one.
        changed = yard.with_work(task, ratio(work))
        self.assertEqual(risers, sorted({server for place in least_places(changed, task)
                                         for server in tight_set(changed, place)}))

    def test_the_documents_example(self):
        curve = Curve(rising_example(), "t")
        for work, risers, fallers in [(0, ["s"], []), (Ratio(1, LONG), ["s"], ["s"]), (4 - Ratio(1, LONG), ["s"], ["s"]),
                                      (4, ["q", "s"], ["s"]), (4 + Ratio(1, LONG), ["q", "s"], ["q", "s"]),
                                      (6, ["s"], ["q", "s"]), (7, ["s"], ["s"]), (LONG, ["s"], ["s"])]:
            self.assertEqual(curve.risers(work), risers)
            self.assertEqual(curve.fallers(work), fallers)
            self.assertEqual(curve.risers(work=work), risers)
            self.assertEqual(curve.fallers(work=work), fallers)
        for work in (0, 1, 4, Fraction(9, 2), 6, 7):
            self.holds(rising_example(), "t", Fraction(work))

    def test_at_breaks_between_and_behind_them(self):
        chance = random.Random(72)
        for _ in range(40):
            yard = chance.choice([drawn_yard, even_yard])(chance) + ("x", 1, ["sa"])
            task = chance.choice(yard.tasks())
            works = [exact(work) for work in Curve(yard, task).breaks()]
            between = [(one + other) / 2 for one, other in zip(works, works[1:])]
            for work in works + between + [works[-1] + 1, works[-1] + 1000]:
                self.holds(yard, task, work)

    def test_at_the_work_0(self):
        for yard in (rising_example(), rising_example().scaled(0), Yard({"a": 1, "b": 2}, {"x": (3, ["a", "b"])})):
            for task in yard.tasks():
                self.assertEqual(Curve(yard, task).fallers(0), [])
                self.holds(yard, task, Fraction(0))

    def test_payers_and_relieved_servers(self):
        yard = rising_example()
        for work in (0, 2, 4, 5, 6, 8):
            later, curve = yard.with_work("t", work), Curve(yard, "t")
            self.assertEqual(payers(later, "t"), curve.risers(work))
            self.assertEqual(relieved(later, "t"), curve.fallers(work))
        self.assertEqual(payers(task="t", yard=yard.with_work("t", 4)), ["q", "s"])
        self.assertEqual(relieved(task="t", yard=yard.with_work("t", 4)), ["s"])
        chance = random.Random(73)
        for _ in range(40):
            yard = drawn_yard(chance)
            for task in yard.tasks():
                self.assertEqual(payers(yard, task), Curve(yard, task).risers(yard.work(task)))
                self.assertEqual(relieved(yard, task), Curve(yard, task).fallers(yard.work(task)))


class BreaksTest(Case):

    def holds(self, yard, task):
        """The breaks of a curve are just the works at which others rise than fall; return how many there are."""
        curve = Curve(yard, task)
        works = list(curve.breaks())
        for work in works:
            self.assertIs(work.__class__, Ratio)
            self.assertNotEqual(curve.fallers(work), curve.risers(work))
        found = [exact(work) for work in works]
        self.assertEqual(found[0], 0)
        self.assertEqual(found, sorted(set(found)))
        self.assertLessEqual(len(works), 2 * len(yard.servers()))
        self.assertEqual(curve.risers(works[-1]), yard.places(task))
        for one, other in zip(found, found[1:] + [found[-1] + 1000]):
            low, high = searched_at(yard, task, one), searched_at(yard, task, other)
            for part in (Fraction(1, 3), Fraction(1, 2), Fraction(6, 7)):
                between = searched_at(yard, task, one + part * (other - one))
                for server in yard.servers():
                    self.assertEqual(between[server], low[server] + part * (high[server] - low[server]))
            middle = ratio((one + other) / 2)
            self.assertEqual(curve.risers(middle), curve.fallers(middle))
            self.assertEqual(curve.risers(middle), curve.risers(ratio(one)))
        return len(works)

    def test_drawn_yards(self):
        chance = random.Random(74)
        counts = []
        for _ in range(60):
            yard = chance.choice([drawn_yard, even_yard])(chance) + ("x", 0, ["sa"])
            for task in chance.sample(yard.tasks(), min(2, len(yard))):
                counts.append(self.holds(yard, task))
        self.assertGreater(max(counts), 3)
        self.assertIn(1, counts)

    def test_a_load_that_is_passed_is_no_break(self):
        # Nothing can be moved between the two servers, whose loads are equal at the work 3.
        yard = Yard({"a": 1, "b": 1}, {"x": (1, ["a"]), "y": (3, ["b"])})
        self.assertEqual(list(Curve(yard, "x").breaks()), [Ratio(0)])
        self.holds(yard, "x")

    def test_a_stair(self):
        # The first server is joined by each other one when it reaches its load, and left when their task is out.
        tasks = {"o" + server: (20 * at, [server]) for at, server in enumerate("abcde", start=1)}
        links = {"l" + server: (3, ["a", server]) for server in "bcde"}
        yard = Yard({server: 1 for server in "abcde"}, {**tasks, **links, "x": (0, ["a"])})
        self.assertEqual(self.holds(yard, "x"), 9)

    def test_yards_that_were_changed(self):
        yard = example()
        for change in CHANGES:
            curve = Curve(yard, yard.tasks()[0])
            before = list(curve.breaks())
            later = change(yard)
            for task in later.tasks():
                self.holds(later, task)
            self.assertEqual(list(curve.breaks()), before)
            self.assertTrue(curve.yard == yard)
            yard = later

    def test_one_at_a_time(self):
        curve = Curve(rising_example(), "t")
        one, other = curve.breaks(), curve.breaks()
        self.assertIs(iter(one), one)
        self.assertEqual([next(one), next(other), next(one)], [Ratio(0), Ratio(0), Ratio(4)])
        self.assertEqual([next(one), next(other), next(one, None), next(one, None)], [Ratio(6), Ratio(4), None, None])
        other.close()
        self.assertEqual([str(work) for work in curve.breaks()], ["0", "4", "6"])

    def test_great_yards(self):
        for yard in great_curves(random.Random(75)):
            for task in yard.tasks()[:4]:
                curve = in_time(self, Curve, yard, task)
                works = in_time(self, lambda: list(curve.breaks()))
                self.assertLessEqual(len(works), 16)
                self.assertEqual(curve.risers(works[-1]), yard.places(task))
                for work, other in zip(works, works[1:] + [works[-1] + LONG]):
                    self.assertNotEqual(in_time(self, curve.risers, work), in_time(self, curve.fallers, work))
                    low, high, middle = curve(work), curve(other), in_time(self, curve, (work + other).over(2))
                    self.assertEqual({server: (low[server] + high[server]).over(2) for server in low}, middle)
                in_time(self, payers, yard, task)
                in_time(self, relieved, yard, task)


class GreatestWorkTest(Case):

    def holds(self, yard, task, bound):
        """At the greatest work no load is above the bound; a bit more is too much. None if nothing is few enough."""
        curve = Curve(yard, task)
        found = curve.greatest_work(ratio(bound))
        if found is None:
            self.assertGreater(max(searched_at(yard, task, Fraction(0)).values()), bound)
            return
        self.assertIs(found.__class__, Ratio)
        self.assertLessEqual(max(searched_at(yard, task, exact(found)).values()), bound)
        self.assertGreater(max(searched_at(yard, task, exact(found) + BIT).values()), bound)

    def test_bounds_below_at_and_above_the_loads(self):
        curve = Curve(rising_example(), "t")
        for bound, work in [(0, None), (1, None), (5 - Ratio(1, LONG), None), (5, 4), (Ratio(11, 2), 5), (6, 6),
                            (6 + Ratio(1, LONG), 6 + Ratio(1, LONG)), (7, 7), (LONG, LONG)]:
            found = curve.greatest_work(bound)
            self.assertEqual(found, None if work is None else Ratio.of(work))
            self.assertEqual(curve.greatest_work(bound=Ratio.of(bound)), found)

    def test_a_bound_of_0(self):
        yard = rising_example().scaled(0)
        for task in yard.tasks():
            self.same_ratio(Curve(yard, task).greatest_work(0), 0)
            self.same_ratio(Curve(yard, task).greatest_work(Ratio(0)), 0)
        self.assertIsNone(Curve(rising_example(), "t").greatest_work(0))
        self.same_ratio(Curve(Yard({"a": 3, "b": 2}, {"x": (9, ["a", "b"])}), "x").greatest_work(0), 0)

    def test_a_work_of_0(self):
        yard = Yard({"a": 2, "b": 1}, {"x": (0, ["a"]), "y": (6, ["a"])})
        self.same_ratio(Curve(yard, "x").greatest_work(3), 0)
        self.assertIsNone(Curve(yard, "x").greatest_work(Ratio(29, 10)))

    def test_drawn_yards(self):
        chance = random.Random(76)
        told = []
        for _ in range(60):
            yard = chance.choice([drawn_yard, even_yard])(chance) + ("x", 0, ["sa"])
            task = chance.choice(yard.tasks())
            bounds = list(searched_at(yard, task, Fraction(0)).values())
            for work in Curve(yard, task).breaks():
                bounds.extend(searched_at(yard, task, exact(work)).values())
            for bound in set(bounds):
                for near in (bound, bound + BIT, max(bound - BIT, Fraction(0)), bound + 7):
                    self.holds(yard, task, near)
                    told.append(Curve(yard, task).greatest_work(ratio(near)) is None)
        self.assertGreater(min(told.count(True), told.count(False)), 50)

    def test_great_yards(self):
        for yard in great_curves(random.Random(77)):
            task = yard.tasks()[0]
            curve = Curve(yard, task)
            loads = [exact(load) for load in curve(yard.work(task)).values()]
            found = in_time(self, curve.greatest_work, ratio(max(loads)))
            self.assertGreaterEqual(found.compare(yard.work(task)), 0)
            self.assertEqual(max(exact(load) for load in curve(found).values()), max(loads))

    def test_below_0(self):
        for value in BELOW:
            self.fails(InvalidNumber, {"value": value}, Curve(rising_example(), "t").greatest_work, value)


if __name__ == "__main__":
    unittest.main()
