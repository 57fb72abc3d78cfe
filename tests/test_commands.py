"""Stage 9 [93]: the commands of a board, one by one and many together."""

import random
import unittest

from evenloads.best import best_loads
from evenloads.board import Board
from evenloads.curves import payers
from evenloads.errors import CommandFailed, InvalidCommand, InvalidSpeed, InvalidTasks, LastPlace, NothingToUndo
from evenloads.errors import PlaceTaken, ServerTaken, TaskTaken, TooMany, UnknownPlace, UnknownServer, UnknownTask
from evenloads.ratios import Ratio
from evenloads.spans import span
from evenloads.yards import Yard
from helpers import STRANGE, example, names
from oracles import drawn_yard, great_yards, in_time
from test_board import BoardCase

LONG = 10 ** 30 - 1

# Commands that change the document's example one after another, with the changes of the yard.
CHANGING = [("task w 7/2 a c", lambda yard: yard + ("w", Ratio(7, 2), ["a", "c"])),
            ("task v 0 b", lambda yard: yard + ("v", 0, ["b"])),
            ("work x 1/3", lambda yard: yard.with_work("x", Ratio(1, 3))),
            (f"work y {LONG}", lambda yard: yard.with_work("y", LONG)),
            ("allow z a", lambda yard: yard.with_place("z", "a")),
            ("forbid z c", lambda yard: yard.without_place("z", "c")),
            ("speed b 1000", lambda yard: yard.with_speed("b", 1000)),
            ("server d 3 w x", lambda yard: yard.with_server("d", 3, "w", "x")),
            ("server e 1", lambda yard: yard.with_server("e", 1)),
            ("server f 2 w w", lambda yard: yard.with_server("f", 2, "w")),
            ("drop v", lambda yard: yard - "v"),
            ("work y 0", lambda yard: yard.with_work("y", 0))]

# No commands: words too few, too many or of another kind, blanks, numbers that str does not write.
NO_COMMANDS = STRANGE + [0, 1, [], ["undo"], ("undo",), {}, Ratio(1), example(), b"undo", "", " ", "  ", "undo ", " undo",
                         "undo undo", "undo 1", "Undo", "UNDO", "redo", "undo\n", "loads a", "loads ", " loads", "load",
                         "top 1", "top  ", "tops", "span", "span x", "span x a b", "span  x a", "span x  a", "span x a ",
                         "span X a", "span x 1", "payers", "payers x y", "payers ", "payers 1", "payer x", "drop",
                         "drop x y", "drop ", "drop 1", "drop abcdefghi", "drop  x", "drop x ", "work x", "work 3", "work",
                         "work x 3 4", "work x -1", "work x -1/2", "work x 03", "work x 6/4", "work x 3/1", "work x 3/0",
                         "work x +3", "work x 3.5", "work x -0", "work x 1e3", "work x y", "work x ", "work  x 3",
                         "work x  3", "work X 3", "work 3 x", "work x 00", "work x 1_0", "work x /2", "work x 2/",
                         "allow x", "allow", "allow x a b", "allow x 1", "allow x A", "allow  x a", "forbid x",
                         "forbid x a b", "forbid", "forbid x a ", "speed a", "speed", "speed 3 a", "speed a 3 4",
                         "speed a 1/2", "speed a 2/1", "speed a 03", "speed a +3", "speed a -0", "speed a x", "speed a 1.5",
                         "speed a  3", "speed  a 3", "speed A 3", "server", "server d", "server 3", "server d x", "server d 3 4",
                         "server d 3 x ", "server d 3  x", "server D 3", "server d 1/2", "server d 3 X", "server d 03",
                         "server d x 3", "task", "task w", "task w 3", "task w 3 ", "task w a", "task w a 3", "task 3 w a",
                         "task w -1 a", "task w 3 A", "task w 3 a ", "task w 3  a", "task  w 3 a", "task W 3 a", "task w 03 a",
                         "task w 6/4 a", "task w 3 1", "task w 3 a,b", "task w 3: a", "taskw 3 a", "task abcdefghi 3 a"]


class DoTest(BoardCase):

    def test_commands_that_change_the_yard(self):
        board, yard = Board(example()), example()
        for many, (command, change) in enumerate(CHANGING, start=1):
            self.assertEqual(board.do(command), "done")
            yard = change(yard)
            self.shows(board, yard, many)
        for many in range(len(CHANGING) - 1, -1, -1):
            self.assertEqual(board.do(command="undo"), "done")
            self.assertEqual(board.changes, many)
        self.shows(board, example(), 0)

    def test_questions(self):
        board = Board(example())
        for command, answer in [("loads", "a=3 b=3 c=3/2"), ("top", "3"), ("span x a", "3 3"), ("span y b", "0 0"),
                                ("span z c", "1 1"), ("payers x", "a b"), ("payers z", "c")]:
            self.assertEqual(board.do(command), answer)
            self.assertIs(board.do(command).__class__, str)
            self.shows(board, example(), 0)
        pair = Board(Yard({"a": 1, "b": 1}, {"x": (Ratio(7, 3), ["a", "b"]), "y": (1, ["a", "b"])}))
        self.assertEqual([pair.do("loads"), pair.do("top"), pair.do("span x b")], ["a=5/3 b=5/3", "5/3", "2/3 5/3"])
        self.assertEqual([Board(Yard({"q": 1})).do(command) for command in ("loads", "top")], ["q=0", "0"])

    def test_drawn_yards(self):
        chance = random.Random(123)
        for _ in range(30):
            yard = drawn_yard(chance)
            board, loads = Board(yard), best_loads(yard)
            self.assertEqual(board.do("loads"), " ".join(f"{server}={loads[server]}" for server in yard.servers()))
            self.assertEqual(board.do("top"), str(board.plan.top))
            for task in yard.tasks():
                self.assertEqual(board.do("payers " + task), " ".join(payers(yard, task)))
                for server in yard.places(task):
                    least, greatest = span(yard, task, server)
                    self.assertEqual(board.do(f"span {task} {server}"), f"{least} {greatest}")

    def test_values_that_are_no_commands(self):
        board = Board(example())
        board["x"] = 6
        for value in NO_COMMANDS:
            self.spoils_nothing(board, InvalidCommand, {"value": value}, Board.do, value)

    def test_errors_of_commands(self):
        board = Board(example())
        board["x"] = 6
        for command, error, told in [
                ("task w 3 d", InvalidTasks, {"value": ("w", Ratio(3), ["d"])}),
                ("task w 1/2 a a", InvalidTasks, {"value": ("w", Ratio(1, 2), ["a", "a"])}),
                ("task x 0 a q b", InvalidTasks, {"value": ("x", Ratio(0), ["a", "q", "b"])}),
                ("task x 3 a", TaskTaken, {"value": "x"}), ("drop q", UnknownTask, {"value": "q"}),
                ("drop a", UnknownTask, {"value": "a"}), ("work q 1", UnknownTask, {"value": "q"}),
                ("allow q a", UnknownTask, {"value": "q"}), ("allow x q", UnknownServer, {"value": "q"}),
                ("allow q q", UnknownTask, {"value": "q"}), ("allow x a", PlaceTaken, {"value": ("x", "a")}),
                ("forbid q a", UnknownTask, {"value": "q"}), ("forbid x q", UnknownServer, {"value": "q"}),
                ("forbid x c", UnknownPlace, {"value": ("x", "c")}), ("forbid z c", LastPlace, {"value": ("z", "c")}),
                ("speed a -1", InvalidSpeed, {"server": "a"}), ("speed a 0", InvalidSpeed, {"server": "a"}),
                ("speed a 1001", InvalidSpeed, {"server": "a"}), (f"speed a {LONG}", InvalidSpeed, {"server": "a"}),
                ("speed q 0", UnknownServer, {"value": "q"}), ("server d 0", InvalidSpeed, {"server": "d"}),
                ("server a -5", InvalidSpeed, {"server": "a"}), ("server a 1 q", UnknownTask, {"value": "q"}),
                ("server a 1 x", ServerTaken, {"value": "a"}), ("server d 1 x a", UnknownTask, {"value": "a"}),
                ("span q a", UnknownTask, {"value": "q"}), ("span x q", UnknownServer, {"value": "q"}),
                ("span x c", UnknownPlace, {"value": ("x", "c")}), ("payers q", UnknownTask, {"value": "q"}),
                ("payers a", UnknownTask, {"value": "a"})]:
            self.spoils_nothing(board, error, told, Board.do, command)
        self.fails(NothingToUndo, {}, Board(example()).do, "undo")

    def test_too_many(self):
        servers, tasks = names("s", 12), names("t", 24)
        full = Board(Yard({server: 1 for server in servers}, {task: (1, servers) for task in tasks}))
        self.fails(TooMany, {"what": "servers", "limit": 8}, full.do, "payers ta")
        self.fails(UnknownTask, {"value": "q"}, full.do, "payers q")
        self.fails(TooMany, {"what": "servers", "limit": 12}, full.do, "server q 1")
        self.fails(TooMany, {"what": "tasks", "limit": 24}, full.do, "task q 1 sa")
        self.assertEqual([full.do("top"), full.do("span ta sa"), full.changes], ["2", "0 1", 0])
        long = Board(Yard({"a": 1}, {task: (1, ["a"]) for task in names("t", 13)}))
        self.fails(TooMany, {"what": "tasks", "limit": 12}, long.do, "payers ta")
        self.assertEqual([long.do("drop ta"), long.do("payers tb")], ["done", "a"])

    def test_great_yards(self):
        for yard in great_yards(random.Random(124)):
            board = Board(yard)
            for command in ("loads", "top", "work ta " + str(LONG), "span ta " + yard.places("ta")[0], "speed sa 7",
                            "drop tb", "undo"):
                self.assertIs(in_time(self, board.do, command).__class__, str)


class DoAllTest(BoardCase):

    def test_all_of_them(self):
        board = Board(example())
        commands = ["top", "work x 8", "top", "task w 2 c", "loads", "undo", "undo", "top"]
        self.assertEqual(board.do_all(*commands), ["3", "done", "4", "done", "a=4 b=4 c=5/2", "done", "done", "3"])
        self.shows(board, example(), 0)
        self.assertEqual(board.do_all(), [])
        self.shows(board, example(), 0)

    def test_each_command_is_one_change(self):
        board, yard = Board(example()), example()
        self.assertEqual(board.do_all(*[command for command, _ in CHANGING]), ["done"] * len(CHANGING))
        for _, change in CHANGING:
            yard = change(yard)
        self.shows(board, yard, len(CHANGING))
        self.assertEqual(board.do_all(*["undo"] * len(CHANGING)), ["done"] * len(CHANGING))
        self.shows(board, example(), 0)

    def test_the_same_board_stays(self):
        board = Board(example())
        before = board.copy()
        board.do_all("work x 1", "work x 2")
        self.shows(before, example(), 0)
        board.undo()
        self.shows(board, example().with_work("x", 1), 1)

    def test_a_command_that_fails(self):
        right = ["work x 8", "undo", "undo", "task ww 2 c", "drop z", "top"]
        wrong = [("drop q", UnknownTask, {"value": "q"}), ("speed a 0", InvalidSpeed, {"server": "a"}),
                 ("nothing", InvalidCommand, {"value": "nothing"}), (None, InvalidCommand, {"value": None}),
                 (["top"], InvalidCommand, {"value": ["top"]}), ("task x 1 a", TaskTaken, {"value": "x"}),
                 ("span x c", UnknownPlace, {"value": ("x", "c")})]
        for at in range(len(right) + 1):
            for command, error, told in wrong:
                commands = right[:at] + [command] + right[at:]
                for call in (Board.do_all, Board.attempt):
                    board, yards = self.changed_board()
                    plan = board.plan
                    failed = self.fails(CommandFailed, {"position": at}, call, board, *commands)
                    self.assertIs(failed.__cause__.__class__, error)
                    for name, value in told.items():
                        self.assertEqual(getattr(failed.__cause__, name), value)
                    self.shows(board, yards[-1], len(yards) - 1)
                    self.assertTrue(board.plan == plan)
                    for many in range(len(yards) - 2, -1, -1):
                        board.undo()
                        self.shows(board, yards[many], many)
                    self.fails(NothingToUndo, {}, board.undo)

    def test_taking_back_too_often(self):
        board = Board(example())
        board["x"] = 1
        failed = self.fails(CommandFailed, {"position": 2}, board.do_all, "undo", "top", "undo", "top")
        self.assertIs(failed.__cause__.__class__, NothingToUndo)
        self.shows(board, example().with_work("x", 1), 1)
        full = Board(Yard({server: 1 for server in names("s", 9)}, {"x": (1, ["sa"])}))
        failed = self.fails(CommandFailed, {"position": 1}, full.do_all, "work x 7", "payers x")
        self.assertIs(failed.__cause__.__class__, TooMany)
        self.assertEqual((failed.__cause__.what, failed.__cause__.limit), ("servers", 8))
        self.assertEqual((full.changes, full["x"]), (0, Ratio(1)))

    def test_attempt(self):
        board, yards = self.changed_board()
        self.assertEqual(board.attempt("work x 1", "undo", "undo", "undo", "top"),
                         ["done"] * 4 + [str(board.tried(lambda one: [one.undo(), one.undo(), one.plan.top])[2])])
        self.shows(board, yards[-1], len(yards) - 1)
        self.assertEqual(board.attempt(), [])
        self.assertEqual(Board(example()).attempt("work x 8", "top"), ["done", "4"])


if __name__ == "__main__":
    unittest.main()
