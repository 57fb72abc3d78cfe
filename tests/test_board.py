"""Stage 9 [93]: boards, what can be taken back, and copies."""

import itertools
import random
import unittest

from evenloads.best import best_loads, is_best
from evenloads.board import Board
from evenloads.errors import InvalidName, InvalidSpeed, InvalidTasks, InvalidWork, InvalidYard, LastPlace
from evenloads.errors import NothingToUndo, PlaceTaken, ServerTaken, TaskTaken, TooMany, UnknownPlace, UnknownServer
from evenloads.errors import UnknownTask
from evenloads.plans import Plan
from evenloads.ratios import Ratio
from evenloads.yards import Yard
from helpers import NO_AMOUNTS, NO_NAMES, NO_SERVERS, NO_SPEEDS, NO_TASKS, NO_YARDS, STRANGE, Case, example, names
from oracles import drawn_work, drawn_yard, great_yards, in_time


def add(board, task):
    """board += task, as a call."""
    board += task
    return board


def drop(board, name):
    """board -= name, as a call."""
    board -= name
    return board


def set_work(board, task, work):
    """board[task] = work, as a call."""
    board[task] = work


# Each way to change a board, with the change of the yard that it stands for.
WAYS = [(lambda board: set_work(board, "x", Ratio(7, 2)), lambda yard: yard.with_work("x", Ratio(7, 2))),
        (lambda board: add(board, ("w", 3, ["b"])), lambda yard: yard + ("w", 3, ["b"])),
        (lambda board: board.allow("w", "a"), lambda yard: yard.with_place("w", "a")),
        (lambda board: board.add_server("d", 4, "w", "x"), lambda yard: yard.with_server("d", 4, "w", "x")),
        (lambda board: board.forbid("w", "b"), lambda yard: yard.without_place("w", "b")),
        (lambda board: board.set_speed("d", 1), lambda yard: yard.with_speed("d", 1)),
        (lambda board: drop(board, "y"), lambda yard: yard - "y"),
        (lambda board: board.add_server(server="e", speed=1000), lambda yard: yard.with_server("e", 1000)),
        (lambda board: board.allow(task="z", server="e"), lambda yard: yard.with_place("z", "e")),
        (lambda board: board.forbid(task="z", server="e"), lambda yard: yard.without_place("z", "e")),
        (lambda board: board.set_speed(server="e", speed=2), lambda yard: yard.with_speed("e", 2)),
        (lambda board: set_work(board, "z", 0), lambda yard: yard.with_work("z", 0))]


class BoardCase(Case):

    def shows(self, board, yard, changes):
        """A board has this yard, a best plan of it, and so many changes to be taken back."""
        self.assertIs(board.yard.__class__, Yard)
        self.assertTrue(board.yard == yard)
        self.assertIs(board.plan.__class__, Plan)
        self.assertTrue(board.plan.yard == yard)
        self.assertIs(is_best(board.plan), True)
        self.assertEqual(board.plan.loads(), best_loads(yard))
        self.same_integer(board.changes, changes)
        self.assertEqual([board[task] for task in yard.tasks()], [yard.work(task) for task in yard.tasks()])

    def changed_board(self):
        """A board behind some changes, and the yards from the first one on."""
        board, yards = Board(example()), [example()]
        for change, wanted in WAYS:
            change(board)
            yards.append(wanted(yards[-1]))
        return board, yards

    def spoils_nothing(self, board, error, told, call, *args):
        """A call raises an error, and the board is as it was, also what can be taken back."""
        yard, plan, changes = board.yard, board.plan, board.changes
        self.fails(error, told, call, board, *args)
        self.shows(board, yard, changes)
        self.assertTrue(board.plan == plan)
        copy = board.copy()
        for _ in range(changes):
            copy.undo()
        self.assertTrue(copy.yard == example())
        self.fails(NothingToUndo, {}, copy.undo)


class ChangesTest(BoardCase):

    def test_a_new_board(self):
        self.shows(Board(example()), example(), 0)
        self.shows(Board(yard=Yard({"a": 1})), Yard({"a": 1}), 0)

    def test_each_way_to_change_it_and_to_take_it_back(self):
        board, yards = Board(example()), [example()]
        for many, (change, wanted) in enumerate(WAYS, start=1):
            same = board
            change(board)
            self.assertIs(board, same)
            yards.append(wanted(yards[-1]))
            self.shows(board, yards[-1], many)
        while board.changes > 0:
            yards.pop()
            self.assertIsNone(board.undo())
            self.shows(board, yards[-1], len(yards) - 1)
        self.assertTrue(board.yard == example())
        self.fails(NothingToUndo, {}, board.undo)
        self.shows(board, example(), 0)

    def test_operators_keep_the_same_board(self):
        board = same = Board(example())
        board += ("w", 1, ("a",))
        self.assertIs(board, same)
        board -= "x"
        self.assertIs(board, same)
        board["w"] = 4
        self.assertIs(board, same)
        self.same_ratio(board["w"], 4)
        self.shows(board, example() + ("w", 4, ["a"]) - "x", 3)

    def test_changes_that_leave_the_yard_as_it_was_count(self):
        board = Board(example())
        board["x"] = 6
        board["x"] = Ratio(6)
        board.set_speed("a", 1)
        self.shows(board, example(), 3)
        board["x"] = 5
        board.undo()
        self.shows(board, example(), 3)
        for many in (2, 1, 0):
            board.undo()
            self.shows(board, example(), many)
        self.fails(NothingToUndo, {}, board.undo)

    def test_taking_back_and_going_on(self):
        board = Board(example())
        board["x"] = 1
        board["x"] = 2
        board.undo()
        board["y"] = 9
        self.shows(board, example().with_work("x", 1).with_work("y", 9), 2)
        board.undo()
        self.shows(board, example().with_work("x", 1), 1)
        board.undo()
        self.shows(board, example(), 0)

    def test_what_was_read_stays_as_it_is(self):
        board = Board(example())
        yard, plan = board.yard, board.plan
        amounts = plan.amounts()
        for change, _ in WAYS:
            change(board)
        self.assertTrue(yard == example())
        self.assertEqual(plan.amounts(), amounts)
        self.assertTrue(plan.yard == example())

    def test_reading_changes_nothing(self):
        board, yards = self.changed_board()
        self.assertTrue(board.plan == board.plan)
        self.shows(board, yards[-1], len(WAYS))
        self.assertEqual([board.changes, board.changes], [len(WAYS), len(WAYS)])

    def test_it_is_not_iterated_over(self):
        for call in (iter, list, sorted, lambda board: "x" in board, lambda board: [*board], tuple):
            self.assertRaises(TypeError, call, Board(example()))

    def test_boards_are_not_equal_to_others(self):
        self.assertFalse(Board(example()) == example())

    def test_drawn_changes(self):
        chance = random.Random(121)
        for _ in range(20):
            yard = drawn_yard(chance)
            board, yards = Board(yard), [yard]
            for at in range(12):
                servers, tasks = yard.servers(), yard.tasks()
                task = chance.choice(tasks) if tasks else None
                if task is None or chance.random() < 0.2:
                    further = ("n" + "abcdefghijkl"[at], drawn_work(chance), chance.sample(servers, 1))
                    board += further
                    yards.append(yards[-1] + further)
                elif chance.random() < 0.5:
                    work = drawn_work(chance)
                    board[task] = work
                    yards.append(yards[-1].with_work(task, work))
                elif len(yards) > 1:
                    board.undo()
                    yards.pop()
                yard = yards[-1]
                self.shows(board, yard, len(yards) - 1)

    def test_many_changes(self):
        board = Board(example())
        for work in range(140):
            board["x"] = work
        self.shows(board, example().with_work("x", 139), 140)
        for _ in range(140):
            board.undo()
        self.shows(board, example(), 0)

    def test_great_yards(self):
        for yard in great_yards(random.Random(122)):
            board = in_time(self, Board, yard)
            task, server = yard.tasks()[3], yard.servers()[2]
            in_time(self, set_work, board, task, 10 ** 30 - 1)
            in_time(self, board.set_speed, server, 999)
            self.shows(board, yard.with_work(task, 10 ** 30 - 1).with_speed(server, 999), 2)
            self.fails(TooMany, {"what": "servers", "limit": 12}, board.add_server, "q", 1)
            self.fails(TooMany, {"what": "tasks", "limit": 24}, add, board, ("q", 1, ["sa"]))
            in_time(self, drop, board, task)
            in_time(self, board.undo)
            self.assertEqual(in_time(self, board.tried, lambda one: [one.undo(), one.changes]), [None, 1])
            self.shows(board, yard.with_work(task, 10 ** 30 - 1).with_speed(server, 999), 2)


class ErrorsTest(BoardCase):

    def boards(self):
        """A new board, and one behind two changes that leave the yard of the example as it was."""
        board = Board(example())
        board["x"] = 7
        board["x"] = 6
        return [Board(example()), board]

    def test_values_that_are_no_yards(self):
        for value in NO_YARDS + [Board(example())]:
            self.fails(InvalidYard, {"value": value}, Board, value)
            self.fails(InvalidYard, {"value": value}, Board, yard=value)

    def test_tasks_that_are_none(self):
        for board, value in itertools.product(self.boards(), NO_TASKS + [slice(2), ("x",)]):
            self.fails(UnknownTask, {"value": value}, lambda: board[value])
            self.spoils_nothing(board, UnknownTask, {"value": value}, set_work, value, 3)
            self.spoils_nothing(board, UnknownTask, {"value": value}, set_work, value, None)
            self.spoils_nothing(board, UnknownTask, {"value": value}, drop, value)
            for call in (Board.allow, Board.forbid):
                self.spoils_nothing(board, UnknownTask, {"value": value}, call, value, "a")
                self.spoils_nothing(board, UnknownTask, {"value": value}, call, value, None)

    def test_works_that_are_none(self):
        for board, value in itertools.product(self.boards(), NO_AMOUNTS):
            self.spoils_nothing(board, InvalidWork, {"value": value}, set_work, "x", value)

    def test_further_tasks_that_are_none(self):
        wrong = STRANGE + [0, "", "x", "w", [], (), {}, ("w", 1), ("w", 1, ["a"], None), ["w", 1, ["a"]], ("w", -1, ["a"]),
                           ("w", None, ["a"]), ("w", 1, []), ("w", 1, ["d"]), ("w", 1, ["a", "a"]), ("w", 1, "a"),
                           (None, 1, ["a"]), ("W", 1, ["a"]), ("w", True, ["a"]), ("x", 1, ["d"]), example()]
        for board, value in itertools.product(self.boards(), wrong):
            self.spoils_nothing(board, InvalidTasks, {"value": value}, add, value)
        for board in self.boards():
            self.spoils_nothing(board, TaskTaken, {"value": "x"}, add, ("x", 1, ["a"]))

    def test_servers_that_are_none(self):
        for board, value in itertools.product(self.boards(), NO_SERVERS):
            for call in (Board.allow, Board.forbid):
                self.spoils_nothing(board, UnknownServer, {"value": value}, call, "x", value)
            self.spoils_nothing(board, UnknownServer, {"value": value}, Board.set_speed, value, 3)
            self.spoils_nothing(board, UnknownServer, {"value": value}, Board.set_speed, value, None)

    def test_places(self):
        for board in self.boards():
            self.spoils_nothing(board, PlaceTaken, {"value": ("x", "a")}, Board.allow, "x", "a")
            self.spoils_nothing(board, UnknownPlace, {"value": ("x", "c")}, Board.forbid, "x", "c")
            self.spoils_nothing(board, LastPlace, {"value": ("z", "c")}, Board.forbid, "z", "c")

    def test_further_servers(self):
        for board, value in itertools.product(self.boards(), NO_NAMES):
            self.spoils_nothing(board, InvalidName, {"value": value}, Board.add_server, value, 3)
            self.spoils_nothing(board, InvalidName, {"value": value}, Board.add_server, value, None, "q")
        for board, value in itertools.product(self.boards(), NO_SPEEDS):
            for name in ("d", "a"):
                self.spoils_nothing(board, InvalidSpeed, {"server": name}, Board.add_server, name, value, "q")
            self.spoils_nothing(board, InvalidSpeed, {"server": "a"}, Board.set_speed, "a", value)
        for board in self.boards():
            for name in ("d", "a"):
                self.spoils_nothing(board, UnknownTask, {"value": "q"}, Board.add_server, name, 1, "x", "q", None)
                self.spoils_nothing(board, UnknownTask, {"value": None}, Board.add_server, name, 1, None, "q")
            self.spoils_nothing(board, ServerTaken, {"value": "a"}, Board.add_server, "a", 1, "x")

    def test_too_many(self):
        full = Board(Yard({server: 1 for server in names("s", 12)}, {task: (1, ["sa"]) for task in names("t", 24)}))
        self.fails(TooMany, {"what": "servers", "limit": 12}, full.add_server, "q", 1, "ta")
        self.fails(ServerTaken, {"value": "sb"}, full.add_server, "sb", 1, "ta")
        self.fails(TooMany, {"what": "tasks", "limit": 24}, add, full, ("q", 1, ["sa"]))
        self.fails(TaskTaken, {"value": "ta"}, add, full, ("ta", 1, ["sa"]))
        self.assertEqual(full.changes, 0)
        full -= "ta"
        full += ("q", 1, ["sa"])
        self.assertEqual(full.changes, 2)


class CopyTest(BoardCase):

    def test_a_copy_changes_independently(self):
        board, yards = self.changed_board()
        copy = board.copy()
        self.assertIs(copy.__class__, Board)
        self.assertIsNot(copy, board)
        self.shows(copy, yards[-1], len(WAYS))
        copy["x"] = 99
        self.shows(board, yards[-1], len(WAYS))
        self.shows(copy, yards[-1].with_work("x", 99), len(WAYS) + 1)
        board.undo()
        board.undo()
        self.shows(board, yards[-3], len(WAYS) - 2)
        self.shows(copy, yards[-1].with_work("x", 99), len(WAYS) + 1)
        # The changes of the first board can be taken back on the copy, too.
        for many in range(len(WAYS), -1, -1):
            copy.undo()
            self.shows(copy, yards[many], many)
        self.fails(NothingToUndo, {}, copy.undo)
        self.shows(board, yards[-3], len(WAYS) - 2)

    def test_a_copy_of_a_copy(self):
        board = Board(example())
        board["x"] = 1
        other = board.copy()
        third = other.copy()
        third.undo()
        other["x"] = 2
        self.shows(board, example().with_work("x", 1), 1)
        self.shows(other, example().with_work("x", 2), 2)
        self.shows(third, example(), 0)

    def test_tried(self):
        board, yards = self.changed_board()
        given = []

        def action(one):
            given.append(one)
            self.shows(one, yards[-1], len(WAYS))
            one["x"] = 50
            one.undo()
            one.undo()
            one -= "x"
            return one

        found = board.tried(action)
        self.assertIs(found, given[0])
        self.assertIsNot(found, board)
        self.shows(found, yards[-2] - "x", len(WAYS))
        self.shows(board, yards[-1], len(WAYS))
        for value in (None, 7, "a", [1]):
            self.assertEqual(board.tried(action=lambda one: value), value)

    def test_an_action_that_raises(self):
        class Own(Exception):
            pass

        board, yards = self.changed_board()
        raised = Own("once")

        def action(one):
            one -= "x"
            raise raised

        with self.assertRaises(Own) as caught:
            board.tried(action)
        self.assertIs(caught.exception, raised)
        self.fails(UnknownTask, {"value": "q"}, board.tried, lambda one: drop(one, "q"))
        self.fails(NothingToUndo, {}, Board(example()).tried, lambda one: one.undo())
        self.shows(board, yards[-1], len(WAYS))


if __name__ == "__main__":
    unittest.main()
