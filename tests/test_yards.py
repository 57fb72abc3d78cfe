"""Stage 2 [21], [22]: yards as they are made, and what they tell; test_yard_changes.py has the rest."""

import itertools
import random
import unittest
from fractions import Fraction

from evenloads.errors import InvalidServers, InvalidSpeed, InvalidTask, InvalidTasks, TooMany
from evenloads.errors import UnknownServer, UnknownTask
from evenloads.ratios import Ratio
from evenloads.yards import Yard
from helpers import NO_AMOUNTS, NO_NAME_KEYS, NO_NAMES, NO_SPEEDS, STRANGE
from helpers import Case, example, names, no_lists, no_sets

LONG = 10 ** 30 - 1
NO_DICTS = [value for value in STRANGE if value is not None] + [
    0, 1, "", "a", [], ["a"], [("a", 1)], (), ("a", 1), Ratio(1), Yard({"a": 1})]


class MakingTest(Case):

    def test_the_documents_example(self):
        yard = example()
        self.assertEqual([str(yard.density(["a", "b"])), yard.confined(["b", "c"])], ["3", ["y", "z"]])
        self.assertEqual(yard.servers(), ["a", "b", "c"])
        self.assertEqual(yard.tasks(), ["x", "y", "z"])
        self.assertEqual([yard.speed(server) for server in "abc"], [1, 1, 2])
        self.assertEqual([yard.work(task) for task in "xyz"], [Ratio(6), Ratio(2), Ratio(1)])
        self.assertEqual([yard.places(task) for task in "xyz"], [["a", "b"], ["b", "c"], ["c"]])

    def test_without_tasks(self):
        for yard in (Yard({"a": 3}), Yard({"a": 3}, None), Yard({"a": 3}, {}), Yard({"a": 3}, tasks=None),
                     Yard(speeds={"a": 3}, tasks={}), Yard(tasks=None, speeds={"a": 3})):
            self.assertEqual(yard.servers(), ["a"])
            self.assertEqual(yard.tasks(), [])
            self.same_integer(yard.speed("a"), 3)
            self.same_integer(len(yard), 0)
            self.same_ratio(yard.total, 0)
            self.assertEqual(yard.confined(["a"]), [])
            self.same_ratio(yard.weight(["a"]), 0)
            self.same_ratio(yard.density(["a"]), 0)
            self.assertIs("a" in yard, False)

    def test_names_come_sorted_whatever_the_sequence(self):
        wanted = Yard({"a": 1, "b": 2, "c": 3}, {"x": (1, ["a", "c"]), "y": (2, ["b"])})
        for servers in itertools.permutations([("a", 1), ("b", 2), ("c", 3)]):
            for tasks in ([("x", (1, ["a", "c"])), ("y", (2, ["b"]))], [("y", (2, ("b",))), ("x", (1, ["c", "a"]))]):
                yard = Yard(dict(servers), dict(tasks))
                self.assertEqual(yard.servers(), ["a", "b", "c"])
                self.assertEqual(yard.tasks(), ["x", "y"])
                self.assertEqual(yard.places("x"), ["a", "c"])
                self.assertTrue(yard == wanted)
                self.assertEqual(yard.confined(["c", "b", "a"]), ["x", "y"])

    def test_a_task_and_a_server_of_the_same_name(self):
        yard = Yard({"a": 1, "b": 2}, {"a": (1, ["b"]), "b": (2, ["a"])})
        self.assertEqual(yard.places("a"), ["b"])
        self.assertEqual(yard.confined(["a"]), ["b"])
        self.assertIs("a" in yard, True)

    def test_works_of_every_kind(self):
        for work, top, bottom in [(0, 0, 1), (1, 1, 1), (Ratio(0), 0, 1), (Ratio(6, 4), 3, 2), (LONG, LONG, 1),
                                  (Ratio(1, LONG), 1, LONG), (Ratio(LONG, 7 ** 35), LONG, 7 ** 35)]:
            wanted = Fraction(top, bottom)
            yard = Yard({"a": 1000}, {"x": (work, ["a"])})
            for found in (yard.work("x"), yard.work(task="x"), yard.total, yard.weight(["a"])):
                self.same_ratio(found, wanted.numerator, wanted.denominator)
            wanted = wanted / 1000
            self.same_ratio(yard.density(["a"]), wanted.numerator, wanted.denominator)

    def test_the_limits_of_speeds(self):
        for speed in (1, 2, 999, 1000):
            self.same_integer(Yard({"a": speed}).speed("a"), speed)
            self.same_integer(Yard({"a": speed}).speed(server="a"), speed)

    def test_class_values(self):
        for holder in (Yard, Yard({"a": 1})):
            self.same_integer(holder.MOST_SERVERS, 12)
            self.same_integer(holder.MOST_TASKS, 24)
            self.same_integer(holder.MOST_SPEED, 1000)

    def test_the_greatest_yard(self):
        servers, tasks = names("s", 12), names("t", 24)
        yard = Yard({server: 1000 for server in servers}, {task: (LONG, servers) for task in tasks})
        self.assertEqual(yard.servers(), servers)
        self.assertEqual(yard.tasks(), tasks)
        self.same_integer(len(yard), 24)
        self.same_ratio(yard.total, 24 * LONG)
        self.assertEqual(yard.confined(servers), tasks)
        self.assertEqual(yard.confined(servers[1:]), [])
        self.same_integer(yard.speed_of(servers), 12000)
        self.assertEqual(yard.places("ta"), servers)


class MakingErrorsTest(Case):

    def test_speeds_that_are_no_dict_or_empty(self):
        for value in NO_DICTS + [None, {}]:
            self.fails(InvalidServers, {"value": value}, Yard, value)
            self.fails(InvalidServers, {"value": value}, Yard, value, {"x": (1, ["a"])})
            self.fails(InvalidServers, {"value": value}, Yard, speeds=value, tasks=7)

    def test_servers_that_are_no_names(self):
        for name in NO_NAME_KEYS:
            for value in ({name: 1}, {"a": 1, name: 2}, {name: 2, "a": 1}, {"a": 0, name: 0}):
                self.fails(InvalidServers, {"value": value}, Yard, value)

    def test_wrong_speeds(self):
        for speed in NO_SPEEDS:
            self.fails(InvalidSpeed, {"server": "a"}, Yard, {"a": speed})
            self.fails(InvalidSpeed, {"server": "b"}, Yard, {"c": 0, "b": speed, "a": 1})
            self.fails(InvalidSpeed, {"server": "b"}, Yard, {"b": speed, "c": None, "a": 1000}, {"x": 3})

    def test_tasks_that_are_no_dict(self):
        for value in NO_DICTS:
            self.fails(InvalidTasks, {"value": value}, Yard, {"a": 1}, value)
            self.fails(InvalidTasks, {"value": value}, Yard, tasks=value, speeds={"a": 1})

    def test_tasks_that_are_no_names(self):
        for name in NO_NAME_KEYS:
            for value in ({name: (1, ["a"])}, {"x": (1, ["a"]), name: (1, ["a"])}, {"x": None, name: None}):
                self.fails(InvalidTasks, {"value": value}, Yard, {"a": 1}, value)

    def test_tasks_that_are_no_tuple_of_two(self):
        for value in STRANGE + [0, 1, "", "a", [], [1, ["a"]], (), (1,), (1, ["a"], 2), (1, ["a"], ["a"]), {},
                                {1: ["a"]}, (["a"], 1), Ratio(1)]:
            self.fails(InvalidTask, {"name": "x"}, Yard, {"a": 1}, {"x": value})
            self.fails(InvalidTask, {"name": "x"}, Yard, {"a": 1}, {"z": 1, "x": value, "b": (1, ["a"])})

    def test_works_that_are_no_amounts(self):
        for work in NO_AMOUNTS:
            self.fails(InvalidTask, {"name": "x"}, Yard, {"a": 1}, {"x": (work, ["a"])})
            self.fails(InvalidTask, {"name": "x"}, Yard, {"a": 1}, {"y": (1, []), "x": (work, ["b"])})

    def test_places_that_are_no_list_of_different_servers(self):
        for places in no_sets("abc"):
            self.fails(InvalidTask, {"name": "x"}, Yard, {"a": 1, "b": 1, "c": 1}, {"x": (1, places)})
            self.fails(InvalidTask, {"name": "b"}, Yard, {"a": 1, "b": 1, "c": 1},
                       {"x": (1, ["q"]), "b": (0, places), "a": (1, ("c", "b"))})

    def test_too_many(self):
        servers, tasks = names("s", 13), names("t", 25)
        many = {server: 1 for server in servers}
        few = {server: 1 for server in servers[:12]}
        much = {task: (1, ["sa"]) for task in tasks}
        self.fails(TooMany, {"what": "servers", "limit": 12}, Yard, many)
        self.fails(TooMany, {"what": "servers", "limit": 12}, Yard, many, much)
        self.fails(TooMany, {"what": "servers", "limit": 12}, Yard, many, {"x": (1, ["sm"])})
        self.fails(TooMany, {"what": "tasks", "limit": 24}, Yard, few, much)
        self.fails(TooMany, {"what": "servers", "limit": 12}, Yard, {name: 1 for name in names("s", 1500)})
        self.fails(TooMany, {"what": "tasks", "limit": 24}, Yard, few, {x: (1, ["sa"]) for x in names("t", 1500)})

    def test_too_many_is_told_last(self):
        servers, tasks = names("s", 13), names("t", 25)
        many = {server: 1 for server in servers}
        much = {task: (1, ["sa"]) for task in tasks}
        self.fails(InvalidServers, {"value": {**many, "": 1}}, Yard, {**many, "": 1})
        self.fails(InvalidSpeed, {"server": "sm"}, Yard, {**many, "sm": 0}, 7)
        self.fails(InvalidTasks, {"value": 7}, Yard, many, 7)
        self.fails(InvalidTask, {"name": "tb"}, Yard, many, {**much, "tb": 7, "tc": 7})

    def test_wrong_speeds_are_told_ahead_of_wrong_tasks(self):
        self.fails(InvalidServers, {"value": {}}, Yard, {}, {"": 1})
        self.fails(InvalidSpeed, {"server": "a"}, Yard, {"a": 0}, {"": 1})
        self.fails(InvalidTasks, {"value": {"x": 1, "Y": 2}}, Yard, {"a": 1}, {"x": 1, "Y": 2})


class JobsTest(Case):

    def test_the_whole_yard(self):
        yard = Yard.jobs(["b", "a"], y=["b"], x=("b", "a"))
        self.assertTrue(yard == Yard({"a": 1, "b": 1}, {"x": (1, ["a", "b"]), "y": (1, ["b"])}))
        self.assertIs(yard.is_whole, True)
        self.assertEqual(yard.tasks(), ["x", "y"])
        self.assertEqual(yard.places("x"), ["a", "b"])
        self.same_ratio(yard.work("x"), 1)
        self.same_integer(yard.speed("b"), 1)
        self.same_integer(len(yard), 2)

    def test_without_jobs_and_by_name(self):
        for yard in (Yard.jobs(["a"]), Yard.jobs(("a",)), Yard.jobs(servers=["a"]), Yard({"q": 1}).jobs(["a"])):
            self.assertTrue(yard == Yard({"a": 1}))
        self.assertTrue(Yard.jobs(servers=["a"], x=["a"]) == Yard({"a": 1}, {"x": (1, ["a"])}))

    def test_jobs_of_any_name(self):
        yard = Yard.jobs(["a", "b"], cls=["a"], self=["b"], places=["a", "b"], job=["a"], name=["a"], tasks=["b"],
                         speeds=["b"], yard=["a"], value=["a"])
        self.assertEqual(yard.tasks(), sorted(["cls", "self", "places", "job", "name", "tasks", "speeds", "yard",
                                               "value"]))
        self.assertEqual(yard.places("places"), ["a", "b"])
        self.assertEqual(yard.places("self"), ["b"])
        self.assertEqual(yard.confined(["a"]), ["cls", "job", "name", "value", "yard"])

    def test_servers_that_are_no_list_of_different_names(self):
        for value in no_lists() + [[], (), ["a", "a"], ("b", "a", "b")] + [["a", name] for name in NO_NAMES]:
            self.fails(InvalidServers, {"value": value}, Yard.jobs, value)
            self.fails(InvalidServers, {"value": value}, Yard.jobs, value, x=["a"], Y=3)

    def test_wrong_jobs(self):
        for places in no_sets("abc"):
            self.fails(InvalidTask, {"name": "x"}, Yard.jobs, ["a", "b", "c"], x=places)
            self.fails(InvalidTask, {"name": "self"}, Yard.jobs, ["a", "b", "c"], x=None, self=places, cls=["a"])
        for name in ("X", "aB", "x1", "x_y", "abcdefghi", "_x", ""):
            self.fails(InvalidTask, {"name": name}, Yard.jobs, ["a"], **{name: ["a"]})
        self.fails(InvalidTask, {"name": "X"}, Yard.jobs, ["a"], b=[], X=["a"])
        self.fails(InvalidTask, {"name": "a"}, Yard.jobs, ["a"], a_b=["a"], a=["b"])

    def test_the_limits(self):
        servers, jobs = names("s", 13), names("t", 25)
        yard = Yard.jobs(servers[:12], **{job: servers[:12] for job in jobs[:24]})
        self.assertEqual((yard.servers(), yard.tasks()), (servers[:12], jobs[:24]))
        self.fails(TooMany, {"what": "servers", "limit": 12}, Yard.jobs, servers)
        self.fails(TooMany, {"what": "servers", "limit": 12}, Yard.jobs, servers, **{job: servers for job in jobs})
        self.fails(TooMany, {"what": "tasks", "limit": 24}, Yard.jobs, servers[:12], **{job: ["sa"] for job in jobs})
        self.fails(InvalidTask, {"name": "ta"}, Yard.jobs, servers, **{job: ["a"] for job in jobs})

    def test_whole(self):
        whole = Yard({"a": 1, "b": 1}, {"x": (1, ["a"]), "y": (Ratio(2, 2), ["a", "b"])})
        self.assertIs(whole.is_whole, True)
        self.assertIs(Yard({"a": 1}).is_whole, True)
        self.assertIs(Yard({"a": 2}).is_whole, False)
        self.assertIs(Yard({"a": 1, "b": 2}, {"x": (1, ["a"])}).is_whole, False)
        for work in (0, 2, Ratio(1, 2), LONG):
            self.assertIs(whole.with_work("x", work).is_whole, False)
            self.assertIs(whole.with_work("y", work).is_whole, False)
        self.assertIs(whole.with_speed("b", 2).is_whole, False)


class TellingTest(Case):

    def test_len_in_and_total(self):
        yard = example()
        self.same_integer(len(yard), 3)
        self.same_ratio(yard.total, 9)
        self.same_ratio(Yard({"a": 1}, {"x": (Ratio(1, 2), ["a"]), "y": (Ratio(1, 3), ["a"])}).total, 5, 6)
        for task in "xyz":
            self.assertIs(task in yard, True)
        for value in NO_NAMES + ["a", "b", "c", "w", "xy", ("x",), ["x"], {"x": 1}, yard]:
            self.assertIs(value in yard, False, value)
            self.assertIs(value not in yard, True, value)

    def test_names_that_are_none(self):
        yard = example()
        for value in NO_NAMES + ["x", "y", "z", "d", "ab", ["a"], ("a", "b"), yard]:
            self.fails(UnknownServer, {"value": value}, yard.speed, value)
        self.fails(UnknownServer, {"value": "x"}, yard.speed, server="x")
        for value in NO_NAMES + ["a", "b", "c", "w", "xy", ["x"], ("x", "y"), yard]:
            self.fails(UnknownTask, {"value": value}, yard.work, value)
            self.fails(UnknownTask, {"value": value}, yard.places, value)
        self.fails(UnknownTask, {"value": "a"}, yard.work, task="a")
        self.fails(UnknownTask, {"value": "a"}, yard.places, task="a")

    def test_sets(self):
        yard = example()
        for servers, tasks, weight, speed in [("a", [], 0, 1), ("b", [], 0, 1), ("c", ["z"], 1, 2),
                                              ("ab", ["x"], 6, 2), ("ac", ["z"], 1, 3), ("bc", ["y", "z"], 3, 3),
                                              ("abc", ["x", "y", "z"], 9, 4)]:
            for order in itertools.permutations(servers):
                for value in (list(order), tuple(order)):
                    density = Fraction(weight, speed)
                    self.assertEqual(yard.confined(value), tasks)
                    self.assertEqual(yard.confined(servers=value), tasks)
                    self.same_ratio(yard.weight(value), weight)
                    self.same_ratio(yard.weight(servers=value), weight)
                    self.same_integer(yard.speed_of(value), speed)
                    self.same_integer(yard.speed_of(servers=value), speed)
                    self.same_ratio(yard.density(value), density.numerator, density.denominator)
                    self.same_ratio(yard.density(servers=value), density.numerator, density.denominator)

    def test_sets_of_yards_that_chance_gives(self):
        chance = random.Random(22)
        for _ in range(40):
            servers, tasks = names("s", chance.randint(1, 12)), names("t", chance.randint(0, 24))
            speeds = {server: chance.randint(1, 1000) for server in servers}
            places = {task: chance.sample(servers, chance.randint(1, len(servers))) for task in tasks}
            works = {task: Fraction(chance.randint(0, 60), chance.randint(1, 9)) for task in tasks}
            yard = Yard(speeds, {task: (Ratio(works[task].numerator, works[task].denominator), places[task])
                                 for task in chance.sample(tasks, len(tasks))})
            for _ in range(10):
                chosen = chance.sample(servers, chance.randint(1, len(servers)))
                confined = [task for task in tasks if set(places[task]) <= set(chosen)]
                weight = sum((works[task] for task in confined), Fraction(0))
                speed = sum(speeds[server] for server in chosen)
                self.assertEqual(yard.confined(chosen), confined)
                self.same_ratio(yard.weight(chosen), weight.numerator, weight.denominator)
                self.same_integer(yard.speed_of(chosen), speed)
                density = weight / speed
                self.same_ratio(yard.density(chosen), density.numerator, density.denominator)

    def test_wrong_sets(self):
        yard = example()
        for call in (yard.confined, yard.weight, yard.speed_of, yard.density):
            for value in no_sets("abc"):
                self.fails(InvalidServers, {"value": value}, call, value)
            self.fails(InvalidServers, {"value": ["a", "x"]}, call, servers=["a", "x"])

    def test_equal(self):
        yard = example()
        for same in (example(), example() - "x" + ("x", 6, ["b", "a"]), example().scaled(1)):
            self.assertIs(yard == same, True)
            self.assertIs(yard != same, False)
        others = [Yard({"a": 1, "b": 1, "c": 2}), yard - "x", yard.with_work("x", 5), yard.with_speed("a", 2),
                  yard.with_place("x", "c"), yard.without_place("x", "b"), yard.with_server("d", 1), yard.scaled(2),
                  yard + ("w", 0, ["a"]), yard - "x" + ("w", 6, ["a", "b"])]
        values = NO_NAMES + ["x", 3, yard.tasks(), yard.servers(), {"a": 1, "b": 1, "c": 2}]
        for other in others + values:
            self.assertIs(yard == other, False)
            self.assertIs(other == yard, False)
            self.assertIs(yard != other, True)

    def test_a_yard_is_not_iterated_over_by_names(self):
        with self.assertRaises(TypeError):
            list(example())

    def test_properties_cannot_be_set(self):
        yard = example()
        for name in ("total", "is_whole"):
            with self.assertRaises(AttributeError):
                setattr(yard, name, 1)


class CopiesTest(Case):

    def test_what_is_passed_is_not_changed_and_may_be_changed_later(self):
        places, spots = ["c", "a"], ["b"]
        speeds, tasks = {"c": 2, "a": 1, "b": 1}, {"y": (2, places), "x": (6, spots)}
        yard = Yard(speeds, tasks)
        self.assertEqual(list(speeds.items()), [("c", 2), ("a", 1), ("b", 1)])
        self.assertEqual(list(tasks.items()), [("y", (2, ["c", "a"])), ("x", (6, ["b"]))])
        places.append("b")
        spots[0] = "z"
        speeds["a"] = 7
        speeds["d"] = 1
        del speeds["c"]
        tasks["w"] = (1, ["a"])
        del tasks["x"]
        self.assertTrue(yard == Yard({"a": 1, "b": 1, "c": 2}, {"x": (6, ["b"]), "y": (2, ["a", "c"])}))
        self.assertEqual((yard.servers(), yard.tasks(), yard.places("y")), (["a", "b", "c"], ["x", "y"], ["a", "c"]))

    def test_jobs_copy_what_they_are_given(self):
        servers, places = ["b", "a"], ["b", "a"]
        yard = Yard.jobs(servers, x=places)
        self.assertEqual((servers, places), (["b", "a"], ["b", "a"]))
        servers.append("c")
        places.clear()
        self.assertTrue(yard == Yard({"a": 1, "b": 1}, {"x": (1, ["a", "b"])}))

    def test_sets_are_not_changed(self):
        yard = example()
        for value in (["c", "a", "b"], ["b", "a"]):
            kept = list(value)
            yard.confined(value), yard.weight(value), yard.speed_of(value), yard.density(value)
            self.assertEqual(value, kept)

    def test_what_is_returned_is_new(self):
        yard = example()
        for tell in (yard.servers, yard.tasks, lambda: yard.places("x"), lambda: yard.confined(["b", "c"])):
            found = tell()
            self.assertIs(found.__class__, list)
            kept = list(found)
            found.reverse()
            found.append("q")
            self.assertEqual(tell(), kept)
        self.assertTrue(yard == example())


if __name__ == "__main__":
    unittest.main()
