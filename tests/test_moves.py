"""Stage 1 [12]: moves, their order, and chains of moves."""

import itertools
import operator
import unittest

from evenloads.errors import InvalidName
from evenloads.moves import Gift, Move, is_chain
from evenloads.plans import Plan
from evenloads.ratios import Ratio
from helpers import NO_NAMES, STRANGE, Case, example

ORDERS = {operator.lt: [-1], operator.le: [-1, 0], operator.gt: [1], operator.ge: [0, 1]}


class MakingTest(Case):

    def test_properties(self):
        for task, start, goal in [("x", "a", "b"), ("abcdefgh", "zzzzzzzz", "z"), ("a", "a", "b"), ("b", "a", "b"),
                                  ("task", "start", "goal")]:
            for move in (Move(task, start, goal), Move(task=task, start=start, goal=goal),
                         Move(goal=goal, start=start, task=task)):
                self.assertEqual((move.task, move.start, move.goal), (task, start, goal))
                for word in (move.task, move.start, move.goal):
                    self.assertIs(word.__class__, str)

    def test_each_parameter_that_is_no_name(self):
        for value in NO_NAMES:
            self.fails(InvalidName, {"value": value}, Move, value, "a", "b")
            self.fails(InvalidName, {"value": value}, Move, "x", value, "b")
            self.fails(InvalidName, {"value": value}, Move, "x", "a", value)
            self.fails(InvalidName, {"value": value}, Move, goal=value, start="a", task="x")

    def test_of_several_the_first_one_is_told(self):
        for value in NO_NAMES:
            for second in (None, "", 7, value):
                self.fails(InvalidName, {"value": value}, Move, value, second, "b")
                self.fails(InvalidName, {"value": value}, Move, value, "a", second)
                self.fails(InvalidName, {"value": value}, Move, value, second, second)
                self.fails(InvalidName, {"value": value}, Move, "x", value, second)
        self.fails(InvalidName, {"value": ""}, Move, goal=3, start=2, task="")

    def test_a_goal_equal_to_the_start(self):
        for task in ("x", "a"):
            for server in ("a", "abcdefgh"):
                self.fails(InvalidName, {"value": server}, Move, task, server, server)

    def test_wrong_names_are_told_ahead_of_equal_ones(self):
        self.fails(InvalidName, {"value": "A"}, Move, "A", "a", "a")
        self.fails(InvalidName, {"value": "B"}, Move, "x", "B", "B")
        self.fails(InvalidName, {"value": None}, Move, None, None, None)

    def test_properties_are_not_assigned(self):
        move = Move("x", "a", "b")
        for word in ("task", "start", "goal"):
            with self.assertRaises(AttributeError):
                setattr(move, word, "c")
        self.assertEqual(str(move), "x: a to b")


class OrderTest(Case):

    def test_by_task_then_start_then_goal(self):
        words = ["a", "aa", "ab", "b", "ba", "z"]
        moves = [Move(task, start, goal) for task, start, goal in itertools.product(words, repeat=3) if start != goal]
        wanted = [(task, start, goal) for task, start, goal in itertools.product(words, repeat=3) if start != goal]
        self.assertEqual([(move.task, move.start, move.goal) for move in sorted(moves[::-1])], wanted)
        for one, first in zip(moves, wanted):
            for other, second in zip(moves, wanted):
                for sign, sides in ORDERS.items():
                    self.assertIs(sign(one, other), ((first > second) - (first < second)) in sides)

    def test_the_task_counts_most_then_the_start(self):
        self.assertTrue(Move("x", "c", "b") < Move("y", "a", "b"))
        self.assertTrue(Move("x", "a", "c") < Move("x", "b", "a"))
        self.assertTrue(Move("x", "a", "b") < Move("x", "a", "c"))
        self.assertFalse(Move("y", "a", "b") < Move("x", "c", "d"))
        self.assertEqual(min([Move("y", "a", "b"), Move("x", "c", "b"), Move("x", "b", "c")]), Move("x", "b", "c"))

    def test_equal_moves(self):
        one, other = Move("x", "a", "b"), Move("x", "a", "b")
        for left, right in [(one, other), (one, one)]:
            self.assertIs(left < right, False)
            self.assertIs(left > right, False)
            self.assertIs(left <= right, True)
            self.assertIs(left >= right, True)


class EqualTest(Case):

    def test_moves_of_equal_names(self):
        move = Move("x", "a", "b")
        self.assertIs(move == Move("x", "a", "b"), True)
        self.assertIs(move != Move("x", "a", "b"), False)
        for other in (Move("y", "a", "b"), Move("x", "c", "b"), Move("x", "a", "c"), Move("x", "b", "a")):
            self.assertIs(move == other, False)
            self.assertIs(other == move, False)
            self.assertIs(move != other, True)

    def test_other_values(self):
        move = Move("x", "a", "b")
        for value in STRANGE + ["x: a to b", ("x", "a", "b"), ["x", "a", "b"], 0, Ratio(1), Gift(1, move), [move],
                                Move, example()]:
            self.assertIs(move == value, False)
            self.assertIs(value == move, False)
            self.assertIs(move != value, True)


class WritingTest(Case):

    def test_back(self):
        move = Move("x", "a", "b")
        self.assertEqual(-move, Move("x", "b", "a"))
        self.assertEqual(-(-move), move)
        self.assertEqual((move.task, move.start, move.goal), ("x", "a", "b"))
        self.assertEqual(-Move("a", "abcdefgh", "b"), Move("a", "b", "abcdefgh"))

    def test_str_and_repr(self):
        self.assertEqual(str(Move("x", "a", "b")), "x: a to b")
        self.assertEqual(repr(Move("x", "a", "b")), "Move('x', 'a', 'b')")
        self.assertEqual(str(Move("task", "to", "goal")), "task: to to goal")
        self.assertEqual(repr([Move("task", "to", "goal")]), "[Move('task', 'to', 'goal')]")


class ChainTest(Case):

    def test_chains(self):
        for words in ("ab", "ba", "abc", "cab", "abcdefghijkl"):
            moves = [Move("x", one, other) for one, other in zip(words, words[1:])]
            self.assertIs(is_chain(moves), True, words)
            self.assertIs(is_chain(tuple(moves)), True, words)
            self.assertIs(is_chain(value=moves), True, words)

    def test_of_different_tasks_and_of_tasks_named_like_servers(self):
        self.assertIs(is_chain([Move("x", "a", "b"), Move("y", "b", "c"), Move("x", "c", "d")]), True)
        self.assertIs(is_chain([Move("c", "a", "b"), Move("a", "b", "c"), Move("b", "c", "d")]), True)

    def test_moves_that_do_not_meet(self):
        for words in ["ab cd", "ab ac", "ba ac ab", "ab bc ad", "ab bc bd", "bc ab"]:
            moves = [Move("x", word[0], word[1]) for word in words.split()]
            self.assertIs(is_chain(moves), False, words)

    def test_moves_that_come_to_a_server_twice(self):
        for words in ["ab bc cb", "ab bc cd db", "ab bc cd dc", "ab bc cd db be"]:
            self.assertIs(is_chain([Move("x", word[0], word[1]) for word in words.split()]), False, words)

    def test_moves_that_come_back_to_the_first_start(self):
        for words in ["ab ba", "ab bc ca", "ab bc ca ad", "ab bc cd da"]:
            self.assertIs(is_chain([Move("x", word[0], word[1]) for word in words.split()]), False, words)

    def test_no_lists_and_empty_ones(self):
        move = Move("x", "a", "b")
        for value in STRANGE + [0, 1, "", "ab", [], (), {}, {"x": move}, move, Gift(1, move), Ratio(1), example(),
                                Plan(example(), {("x", "a"): 6, ("y", "b"): 2, ("z", "c"): 1})]:
            self.assertIs(is_chain(value), False)

    def test_values_that_are_no_moves(self):
        move = Move("x", "a", "b")
        for value in STRANGE + [0, "", "x: b to c", ("x", "b", "c"), ["x", "b", "c"], [move], Move, Ratio(1), {},
                                Gift(1, Move("x", "b", "c"))]:
            for moves in ([value], [move, value], (value, move), [move, value, Move("y", "b", "c")]):
                self.assertIs(is_chain(moves), False)

    def test_the_list_stays(self):
        moves = [Move("x", "a", "b"), Move("y", "b", "c")]
        is_chain(moves)
        self.assertEqual(moves, [Move("x", "a", "b"), Move("y", "b", "c")])

    def test_long_lists(self):
        names = ["".join(letters) for letters in itertools.islice(itertools.product("abcdefghijklm", repeat=3), 2001)]
        moves = [Move("x", one, other) for one, other in zip(names, names[1:])]
        self.assertIs(is_chain(moves), True)
        self.assertIs(is_chain(moves[:1999] + [Move("x", names[1999], names[0])]), False)


if __name__ == "__main__":
    unittest.main()
