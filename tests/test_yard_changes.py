"""Stage 2: the methods and operators that make a yard of another one."""

import unittest

from evenloads.errors import InvalidName, InvalidSpeed, InvalidTasks, InvalidWork, InvalidYard, LastPlace
from evenloads.errors import OtherServers, PlaceTaken, ServerTaken, TaskTaken, TooMany, UnknownPlace
from evenloads.errors import UnknownServer, UnknownTask
from evenloads.ratios import Ratio
from evenloads.yards import Yard
from helpers import NO_AMOUNTS, NO_NAMES, NO_SPEEDS, STRANGE, Case, example, names, no_sets

LONG = 10 ** 30 - 1
SPEEDS = {"a": 1, "b": 1, "c": 2}
TASKS = {"x": (6, ["a", "b"]), "y": (2, ["b", "c"]), "z": (1, ["c"])}
AMOUNTS = [0, 1, 7, LONG, Ratio(0), Ratio(1, 2), Ratio(LONG, 7), Ratio(1, LONG)]
NO_SERVERS = NO_NAMES + ["d", "x", "ab", ["a", "b"]]
NO_TASKS = NO_NAMES + ["a", "w", "xy", ["x"], ("x", "y")]


def full(servers=12, tasks=24):
    """A yard at the limits, or with this many servers and tasks."""
    return Yard({server: 1 for server in names("s", servers)}, {task: (1, ["sa"]) for task in names("t", tasks)})


class ChangeCase(Case):
    """Each test here works on the document's example, which no call may change."""

    def setUp(self):
        self.yard = example()

    def tearDown(self):
        self.assertTrue(self.yard == Yard(SPEEDS, TASKS))
        self.assertEqual((self.yard.servers(), self.yard.tasks()), (["a", "b", "c"], ["x", "y", "z"]))

    def makes(self, found, speeds, tasks):
        """A yard is that of these dicts, its names sorted, and another object than the one it came of."""
        self.assertIsNot(found, self.yard)
        self.assertIs(found.__class__, Yard)
        self.assertTrue(found == Yard(speeds, tasks))
        self.assertEqual((found.servers(), found.tasks()), (sorted(speeds), sorted(tasks)))
        for task in tasks:
            self.assertEqual(found.places(task), sorted(tasks[task][1]))
            self.assertIs(found.work(task).__class__, Ratio)

    def without(self, task):
        return {name: TASKS[name] for name in TASKS if name != task}


class PlusTest(ChangeCase):

    def test_a_task_more(self):
        for work in AMOUNTS:
            for places in (["a"], ("c", "a"), ["b", "c", "a"]):
                for name in ("w", "zz", "a", "abcdefgh"):
                    self.makes(self.yard + (name, work, places), SPEEDS, {**TASKS, name: (work, places)})

    def test_its_list_is_copied(self):
        places = ["c", "a"]
        found = self.yard + ("w", 1, places)
        self.assertEqual(places, ["c", "a"])
        places.append("b")
        self.makes(found, SPEEDS, {**TASKS, "w": (1, ["a", "c"])})

    def test_values_that_are_no_task(self):
        wrong = STRANGE + [0, "", "w", [], ["w", 1, ["a"]], (), ("w",), ("w", 1), ("w", 1, ["a"], 2), {},
                           {"w": (1, ["a"])}, ("w", (1, ["a"])), (1, "w", ["a"]), Ratio(1), example()]
        wrong = wrong + [(name, 1, ["a"]) for name in NO_NAMES]
        wrong = wrong + [("w", work, ["a"]) for work in NO_AMOUNTS]
        wrong = wrong + [("w", 1, places) for places in no_sets("abc")]
        for value in wrong:
            self.fails(InvalidTasks, {"value": value}, lambda: self.yard + value)
        for value in [("x", -1, ["a"]), ("x", 1, []), ("x", 1)]:
            self.fails(InvalidTasks, {"value": value}, lambda: self.yard + value)

    def test_a_task_of_this_name(self):
        for task in "xyz":
            self.fails(TaskTaken, {"value": task}, lambda: self.yard + (task, 1, ["a"]))

    def test_too_many(self):
        self.assertTrue(full(12, 23) + ("tx", 1, ["sa"]) == full())
        for work in (0, 1):
            error = self.fails(TooMany, {"what": "tasks", "limit": 24}, lambda: full() + ("w", work, ["sa"]))
            self.assertEqual((error.what, error.limit), ("tasks", 24))
        self.fails(TaskTaken, {"value": "ta"}, lambda: full() + ("ta", 1, ["sa"]))
        self.fails(InvalidTasks, {"value": ("w", 1, ["a"])}, lambda: full() + ("w", 1, ["a"]))


class MinusTest(ChangeCase):

    def test_a_task_less(self):
        for task in "xyz":
            self.makes(self.yard - task, SPEEDS, self.without(task))
        self.makes(self.yard - "x" - "y" - "z", SPEEDS, {})

    def test_values_that_are_no_task(self):
        for value in NO_TASKS + [example(), ("x", 6, ["a", "b"])]:
            self.fails(UnknownTask, {"value": value}, lambda: self.yard - value)
        self.fails(UnknownTask, {"value": "x"}, lambda: self.yard - "x" - "x")


class OrTest(ChangeCase):

    def test_the_tasks_of_both(self):
        other = Yard({"c": 2, "b": 1, "a": 1}, {"w": (Ratio(1, 2), ["c"]), "a": (0, ["a", "b"])})
        wanted = {**TASKS, "w": (Ratio(1, 2), ["c"]), "a": (0, ["a", "b"])}
        self.makes(self.yard | other, SPEEDS, wanted)
        self.makes(other | self.yard, SPEEDS, wanted)
        self.makes(self.yard | Yard(SPEEDS), SPEEDS, TASKS)
        self.makes(Yard(SPEEDS) | self.yard, SPEEDS, TASKS)
        self.assertTrue(Yard(SPEEDS) | Yard(SPEEDS) == Yard(SPEEDS))

    def test_values_that_are_no_yard(self):
        for value in NO_NAMES + ["x", "a", 5, TASKS, ("w", 1, ["a"])]:
            self.fails(InvalidYard, {"value": value}, lambda: self.yard | value)

    def test_other_servers(self):
        for speeds in ({"a": 1, "b": 1}, {"a": 1, "b": 1, "c": 3}, {"a": 1, "b": 1, "d": 2},
                       {"a": 1, "b": 1, "c": 2, "d": 1}, {"a": 2, "b": 1, "c": 1}):
            for other in (Yard(speeds), Yard(speeds, {"x": (1, ["a"])})):
                error = self.fails(OtherServers, {}, lambda: self.yard | other)
                self.assertIs(error.one, self.yard)
                self.assertIs(error.other, other)
                error = self.fails(OtherServers, {}, lambda: other | self.yard)
                self.assertIs(error.one, other)
                self.assertIs(error.other, self.yard)

    def test_the_least_name_of_tasks_in_both(self):
        other = Yard(SPEEDS, {"z": (1, ["c"]), "y": (0, ["a"]), "a": (1, ["a"])})
        self.fails(TaskTaken, {"value": "y"}, lambda: self.yard | other)
        self.fails(TaskTaken, {"value": "y"}, lambda: other | self.yard)
        self.fails(TaskTaken, {"value": "x"}, lambda: self.yard | self.yard)

    def test_too_many(self):
        speeds = {server: 1 for server in names("s", 12)}
        rest = Yard(speeds, {"tw": (1, ["sa"]), "tx": (1, ["sa"])})
        self.assertTrue(full(12, 22) | rest == full())
        self.fails(TooMany, {"what": "tasks", "limit": 24}, lambda: full(12, 24) | Yard(speeds, {"w": (1, ["sa"])}))
        self.fails(TaskTaken, {"value": "tw"}, lambda: full(12, 23) | rest)
        self.fails(TaskTaken, {"value": "ta"}, lambda: full() | full())
        self.fails(OtherServers, {"one": full(), "other": full(11, 24)}, lambda: full() | full(11, 24))


class WorkTest(ChangeCase):

    def test_with_work(self):
        for work in AMOUNTS:
            for task in "xyz":
                wanted = {**TASKS, task: (work, TASKS[task][1])}
                self.makes(self.yard.with_work(task, work), SPEEDS, wanted)
                self.makes(self.yard.with_work(work=work, task=task), SPEEDS, wanted)

    def test_works_that_are_no_amounts(self):
        for work in NO_AMOUNTS:
            self.fails(InvalidWork, {"value": work}, self.yard.with_work, "x", work)
            self.fails(InvalidWork, {"value": work}, self.yard.with_work, work=work, task="z")

    def test_the_task_is_checked_first(self):
        for value in NO_TASKS:
            self.fails(UnknownTask, {"value": value}, self.yard.with_work, value, 1)
            self.fails(UnknownTask, {"value": value}, self.yard.with_work, value, -1)

    def test_scaled(self):
        third = Yard(SPEEDS, {"x": (2, ["a", "b"]), "y": (Ratio(2, 3), ["b", "c"]), "z": (Ratio(1, 3), ["c"])})
        self.assertTrue(self.yard.scaled(Ratio(1, 3)) == third)
        self.assertTrue(third.scaled(factor=3) == self.yard)
        for factor in AMOUNTS:
            wanted = {task: (factor * TASKS[task][0], TASKS[task][1]) for task in TASKS}
            self.makes(self.yard.scaled(factor), SPEEDS, wanted)
        self.assertTrue(Yard({"a": 1}).scaled(5) == Yard({"a": 1}))
        self.assertTrue(full().scaled(1) == full())

    def test_factors_that_are_no_amounts(self):
        for factor in NO_AMOUNTS:
            self.fails(InvalidWork, {"value": factor}, self.yard.scaled, factor)
            self.fails(InvalidWork, {"value": factor}, self.yard.scaled, factor=factor)
            self.fails(InvalidWork, {"value": factor}, Yard({"a": 1}).scaled, factor)


class PlaceTest(ChangeCase):

    def test_with_place(self):
        for task, server in [("x", "c"), ("y", "a"), ("z", "a"), ("z", "b")]:
            wanted = {**TASKS, task: (TASKS[task][0], [*TASKS[task][1], server])}
            self.makes(self.yard.with_place(task, server), SPEEDS, wanted)
            self.makes(self.yard.with_place(server=server, task=task), SPEEDS, wanted)

    def test_a_place_that_is_taken(self):
        for task in TASKS:
            for server in TASKS[task][1]:
                self.fails(PlaceTaken, {"value": (task, server)}, self.yard.with_place, task, server)

    def test_without_place(self):
        for task, server, rest in [("x", "a", "b"), ("x", "b", "a"), ("y", "b", "c"), ("y", "c", "b")]:
            wanted = {**TASKS, task: (TASKS[task][0], [rest])}
            self.makes(self.yard.without_place(task, server), SPEEDS, wanted)
            self.makes(self.yard.without_place(server=server, task=task), SPEEDS, wanted)
        wider = self.yard.with_place("x", "c")
        self.assertTrue(wider.without_place("x", "c") == self.yard)
        self.assertEqual(wider.without_place("x", "a").places("x"), ["b", "c"])

    def test_no_place_and_the_last_place(self):
        for task, server in [("x", "c"), ("y", "a"), ("z", "a"), ("z", "b")]:
            self.fails(UnknownPlace, {"value": (task, server)}, self.yard.without_place, task, server)
        self.fails(LastPlace, {"value": ("z", "c")}, self.yard.without_place, "z", "c")
        self.fails(LastPlace, {"value": ("x", "b")}, self.yard.without_place("x", "a").without_place, "x", "b")

    def test_unknown_tasks_and_servers(self):
        for call in (self.yard.with_place, self.yard.without_place):
            for value in NO_TASKS:
                self.fails(UnknownTask, {"value": value}, call, value, "a")
                self.fails(UnknownTask, {"value": value}, call, value, "x")
            for value in NO_SERVERS:
                for task in "xz":
                    self.fails(UnknownServer, {"value": value}, call, task, value)
                    self.fails(UnknownServer, {"value": value}, call, server=value, task=task)


class ServerTest(ChangeCase):

    def test_with_server(self):
        for server, speed in [("d", 1), ("aa", 1000), ("x", 7), ("abcdefgh", 2)]:
            speeds = {**SPEEDS, server: speed}
            for tasks in ([], ["x"], ["z", "x"], ["x", "x"], ["y", "x", "z"], ["z", "z", "x", "z"]):
                wanted = {task: (work, [*places, server] if task in tasks else places)
                          for task, (work, places) in TASKS.items()}
                self.makes(self.yard.with_server(server, speed, *tasks), speeds, wanted)
            self.makes(self.yard.with_server(speed=speed, server=server), speeds, TASKS)

    def test_servers_that_are_no_names(self):
        for value in NO_NAMES:
            self.fails(InvalidName, {"value": value}, self.yard.with_server, value, 1)
            self.fails(InvalidName, {"value": value}, self.yard.with_server, value, 0, "q")

    def test_wrong_speeds(self):
        for speed in NO_SPEEDS:
            for server in "da":
                self.fails(InvalidSpeed, {"server": server}, self.yard.with_server, server, speed)
                self.fails(InvalidSpeed, {"server": server}, self.yard.with_server, server, speed, "q")

    def test_the_first_unknown_task(self):
        for value in NO_TASKS:
            for server in "da":
                self.fails(UnknownTask, {"value": value}, self.yard.with_server, server, 1, value)
                self.fails(UnknownTask, {"value": value}, self.yard.with_server, server, 1, "x", value, "q", None)

    def test_a_server_of_this_name(self):
        for server in "abc":
            self.fails(ServerTaken, {"value": server}, self.yard.with_server, server, 1)
            self.fails(ServerTaken, {"value": server}, self.yard.with_server, server, 1, "x", "y")

    def test_too_many(self):
        self.assertTrue(full(11, 24).with_server("sl", 1) == full())
        self.fails(TooMany, {"what": "servers", "limit": 12}, full().with_server, "sm", 1)
        self.fails(TooMany, {"what": "servers", "limit": 12}, full().with_server, "sm", 1, *names("t", 24))
        self.fails(ServerTaken, {"value": "sa"}, full().with_server, "sa", 1)
        self.fails(UnknownTask, {"value": "w"}, full().with_server, "sa", 1, "w")
        self.fails(InvalidSpeed, {"server": "sm"}, full().with_server, "sm", 0)

    def test_with_speed(self):
        for server in "abc":
            for speed in (1, 2, 999, 1000):
                self.makes(self.yard.with_speed(server, speed), {**SPEEDS, server: speed}, TASKS)
                self.makes(self.yard.with_speed(speed=speed, server=server), {**SPEEDS, server: speed}, TASKS)

    def test_with_a_wrong_speed(self):
        for speed in NO_SPEEDS:
            for server in "abc":
                self.fails(InvalidSpeed, {"server": server}, self.yard.with_speed, server, speed)

    def test_the_server_is_checked_first(self):
        for value in NO_SERVERS:
            self.fails(UnknownServer, {"value": value}, self.yard.with_speed, value, 1)
            self.fails(UnknownServer, {"value": value}, self.yard.with_speed, value, 0)


class LimitsTest(ChangeCase):

    def test_changes_of_the_greatest_yard(self):
        yard = full()
        self.assertEqual(len(yard.with_work("tx", 5)), 24)
        self.assertEqual(yard.with_work("tx", 5).work("tx"), Ratio(5))
        self.assertEqual(yard.with_place("tx", "sl").places("tx"), ["sa", "sl"])
        self.assertTrue(yard.with_place("tx", "sl").without_place("tx", "sl") == yard)
        self.assertEqual(yard.with_speed("sl", 1000).speed("sl"), 1000)
        self.assertEqual(len(yard - "ta"), 23)
        self.assertTrue(yard - "ta" + ("ta", 1, ["sa"]) == yard)
        self.assertTrue(yard | Yard({server: 1 for server in names("s", 12)}) == yard)
        self.assertTrue(yard == full())


if __name__ == "__main__":
    unittest.main()
