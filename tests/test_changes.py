"""Stage 7: what changes of a yard do to all loads, who pays, and NOBODY GAINS BY MORE WORK."""

import random
import unittest

from evenloads.best import best_loads, best_plan
from evenloads.changes import effects, who_pays
from evenloads.curves import payers
from evenloads.errors import InvalidYard, TooMany
from evenloads.plans import Plan
from evenloads.ratios import Ratio
from evenloads.yards import Yard
from helpers import CHANGES, NO_YARDS, Case, example, names
from oracles import drawn_work, drawn_yard, exact, great_yards, in_time, searched_loads


class EffectsTest(Case):

    def holds(self, yard, later):
        """Effects are differences of the loads of a search; return them as Fractions."""
        before, after = searched_loads(yard), searched_loads(later)
        found = effects(yard, later)
        self.assertIs(found.__class__, dict)
        self.assertEqual(list(found), sorted(set(yard.servers()) & set(later.servers())))
        for server in found:
            self.assertIs(found[server].__class__, Ratio)
            self.assertEqual(exact(found[server]), after[server] - before[server])
        return [exact(number) for number in found.values()]

    def test_the_documents_example(self):
        yard = example()
        self.assertEqual(effects(yard, yard.with_work("x", 8)), {"a": Ratio(1), "b": Ratio(1), "c": Ratio(0)})
        self.assertEqual(effects(later=yard, yard=yard.with_work("x", 8)), {"a": Ratio(-1), "b": Ratio(-1), "c": Ratio(0)})
        self.assertEqual(effects(yard, yard), {"a": Ratio(0), "b": Ratio(0), "c": Ratio(0)})
        found = effects(yard, yard)
        found.clear()
        self.assertEqual(len(effects(yard, yard)), 3)

    def test_other_servers(self):
        yard = example()
        self.assertEqual(effects(yard, Yard({"q": 1, "b": 7}, {"x": (14, ["b"])})), {"b": Ratio(-1)})
        self.assertEqual(effects(yard, Yard({"q": 1}, {"x": (14, ["q"])})), {})
        self.holds(yard, yard.with_server("d", 3, "x", "y"))
        self.holds(yard.with_server("d", 3, "x", "y"), yard)

    def test_drawn_yards(self):
        chance = random.Random(76)
        for _ in range(80):
            self.holds(drawn_yard(chance), drawn_yard(chance))

    def test_yards_that_were_changed(self):
        yard = example()
        for change in CHANGES:
            later = change(yard)
            self.holds(yard, later)
            self.holds(later, example())
            yard = later

    def test_nobody_gains_by_more_work(self):
        chance = random.Random(77)
        grown = 0
        for _ in range(80):
            yard = drawn_yard(chance)
            more = yard + ("x", drawn_work(chance), chance.sample(yard.servers(), chance.randint(1, len(yard.servers()))))
            for task in ["x", *yard.tasks()]:
                found = self.holds(yard if task == "x" else more.with_work(task, yard.work(task)),
                                   more if task == "x" else more.with_work(task, yard.work(task) + drawn_work(chance)))
                self.assertGreaterEqual(min(found), 0)
                grown = grown + max(found)
        self.assertGreater(grown, 0)

    def test_no_load_rises_when_a_server_or_speed_is_added(self):
        chance = random.Random(78)
        fallen = 0
        for _ in range(80):
            yard = drawn_yard(chance)
            tasks, servers = yard.tasks(), yard.servers()
            for later in (yard.with_server("q", chance.randint(1, 5), *chance.sample(tasks, chance.randint(0, len(tasks)))),
                          yard.with_speed(servers[0], yard.speed(servers[0]) + chance.randint(1, 3))):
                found = self.holds(yard, later)
                self.assertLessEqual(max(found), 0)
                fallen = fallen + min(found)
        self.assertLess(fallen, 0)

    def test_a_place_more_may_raise_loads_but_makes_no_cost_greater(self):
        yard = Yard({"a": 1, "b": 1}, {"x": (6, ["a"])})
        self.assertEqual(effects(yard, yard.with_place("x", "b")), {"a": Ratio(-3), "b": Ratio(3)})
        chance = random.Random(82)
        for _ in range(80):
            yard = drawn_yard(chance)
            for task in yard.tasks():
                for server in yard.servers():
                    if server not in yard.places(task):
                        later = yard.with_place(task, server)
                        self.holds(yard, later)
                        same = Plan(later, best_plan(yard).amounts())
                        self.assertIs(best_plan(later).never_dearer(same), True)

    def test_values_that_are_no_yards(self):
        for value in NO_YARDS:
            self.fails(InvalidYard, {"value": value}, effects, value, example())
            self.fails(InvalidYard, {"value": value}, effects, value, None)
            self.fails(InvalidYard, {"value": value}, effects, example(), value)
            self.fails(InvalidYard, {"value": value}, effects, later=value, yard=example())

    def test_great_yards(self):
        yards = great_yards(random.Random(79))
        for yard, later in zip(yards, yards[1:]):
            found = in_time(self, effects, yard, later)
            one, other = best_loads(yard), best_loads(later)
            self.assertEqual(found, {server: other[server] - one[server] for server in one})
            self.assertEqual(len(found), 12)


class WhoPaysTest(Case):

    def test_payers_of_each_task(self):
        self.assertEqual(who_pays(example()), {"x": ["a", "b"], "y": ["c"], "z": ["c"]})
        self.assertEqual(who_pays(yard=example()), who_pays(example()))
        chance = random.Random(80)
        for _ in range(60):
            yard = drawn_yard(chance)
            found = who_pays(yard)
            self.assertEqual(list(found), yard.tasks())
            self.assertEqual(found, {task: payers(yard, task) for task in yard.tasks()})

    def test_without_tasks(self):
        self.assertEqual(who_pays(Yard({"a": 1})), {})
        self.assertEqual(who_pays(Yard({server: 1 for server in names("s", 8)})), {})

    def test_yards_that_were_changed(self):
        yard = example()
        for change in CHANGES:
            yard = change(yard)
            self.assertEqual(who_pays(yard), {task: payers(yard, task) for task in yard.tasks()})

    def test_too_many(self):
        for servers, tasks, what, limit in [(9, 0, "servers", 8), (12, 24, "servers", 8), (8, 13, "tasks", 12),
                                            (1, 24, "tasks", 12), (9, 1, "servers", 8), (9, 13, "servers", 8)]:
            chosen = names("s", servers)
            yard = Yard({server: 1 for server in chosen}, {task: (1, chosen) for task in names("t", tasks)})
            self.fails(TooMany, {"what": what, "limit": limit}, who_pays, yard)

    def test_values_that_are_no_yards(self):
        for value in NO_YARDS:
            self.fails(InvalidYard, {"value": value}, who_pays, value)
            self.fails(InvalidYard, {"value": value}, who_pays, yard=value)

    def test_great_yards(self):
        chance, servers = random.Random(81), names("s", 8)
        yard = Yard({server: chance.randint(1, 1000) for server in servers},
                    {task: (chance.randint(10 ** 29, 10 ** 30 - 1), chance.sample(servers, chance.randint(1, 8)))
                     for task in names("t", 12)})
        self.assertEqual(in_time(self, who_pays, yard), {task: payers(yard, task) for task in yard.tasks()})


if __name__ == "__main__":
    unittest.main()
