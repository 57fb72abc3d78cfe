"""Stage 1 [12]: gifts, as they are made, and what they tell."""

import unittest

from evenloads.errors import InvalidMoves, InvalidName, InvalidNumber
from evenloads.moves import Gift, Move
from evenloads.plans import Plan
from evenloads.ratios import Ratio
from helpers import BELOW, NO_NAMES, NO_NUMBERS, STRANGE, Case, example

LONG = 10 ** 30 - 1
NO_GIFT_AMOUNTS = NO_NUMBERS + BELOW + [0, Ratio(0), Ratio(0, -7)]
ONE, TWO, THREE = Move("x", "a", "b"), Move("y", "b", "c"), Move("x", "c", "d")


class MakingTest(Case):

    def test_amounts_of_every_kind(self):
        for amount, top, bottom in [(1, 1, 1), (7, 7, 1), (LONG, LONG, 1), (Ratio(1, LONG), 1, LONG),
                                    (Ratio(6, 4), 3, 2), (Ratio(-1, -2), 1, 2), (Ratio(5), 5, 1)]:
            for gift in (Gift(amount, ONE), Gift(amount, ONE, TWO), Gift.single(amount, "x", "a", "b")):
                self.same_ratio(gift.amount, top, bottom)

    def test_start_goal_moves_and_len(self):
        for moves in ([ONE], [ONE, TWO], [ONE, TWO, THREE]):
            gift = Gift(1, *moves)
            self.assertEqual(gift.start, "a")
            self.assertEqual(gift.goal, moves[-1].goal)
            self.assertIs(gift.moves().__class__, list)
            self.assertEqual(gift.moves(), moves)
            self.same_integer(len(gift), len(moves))

    def test_a_new_list_each_time(self):
        gift = Gift(2, ONE, TWO)
        gift.moves().clear()
        gift.moves().append(THREE)
        self.assertEqual(gift.moves(), [ONE, TWO])
        self.assertIsNot(gift.moves(), gift.moves())
        self.assertEqual((len(gift), gift.goal), (2, "c"))

    def test_the_longest_gift(self):
        servers = "abcdefghijkl"
        moves = [Move(one, one, other) for one, other in zip(servers, servers[1:])]
        gift = Gift(Ratio(1, 3), *moves)
        self.assertEqual((gift.start, gift.goal, len(gift)), ("a", "l", 11))
        self.assertEqual((-gift).moves(), [Move(one, other, one) for one, other in zip(servers, servers[1:])][::-1])

    def test_properties_are_not_assigned(self):
        gift = Gift(1, ONE)
        for word in ("amount", "start", "goal"):
            with self.assertRaises(AttributeError):
                setattr(gift, word, "c")


class ErrorsTest(Case):

    def test_amounts_that_are_none_above_0(self):
        for value in NO_GIFT_AMOUNTS:
            self.fails(InvalidNumber, {"value": value}, Gift, value, ONE)
            self.fails(InvalidNumber, {"value": value}, Gift, value)
            self.fails(InvalidNumber, {"value": value}, Gift, value, None, ONE)
            self.fails(InvalidNumber, {"value": value}, Gift, amount=value)

    def test_no_moves(self):
        self.fails(InvalidMoves, {"position": None}, Gift, 1)
        self.fails(InvalidMoves, {"position": None}, Gift, Ratio(1, 2))
        self.fails(InvalidMoves, {"position": None}, Gift, amount=1)

    def test_the_position_of_the_first_that_is_no_move(self):
        for value in STRANGE + [0, "", "x", ("x", "a", "b"), ["x", "a", "b"], [ONE], (ONE,), {}, Ratio(1),
                                Gift(1, ONE)]:
            self.fails(InvalidMoves, {"position": 0}, Gift, 1, value)
            self.fails(InvalidMoves, {"position": 0}, Gift, 1, value, ONE)
            self.fails(InvalidMoves, {"position": 1}, Gift, 1, ONE, value, TWO)
            self.fails(InvalidMoves, {"position": 2}, Gift, 1, ONE, TWO, value, value)
            self.fails(InvalidMoves, {"position": 1}, Gift, 1, ONE, value, ONE)

    def test_the_position_of_the_first_that_makes_no_chain(self):
        for words, position in [("ab cd", 1), ("ab ba", 1), ("ab bc ca", 2), ("ab bc cb", 2), ("ab bc cd da", 3),
                                ("ab bc cd db", 3), ("ab ab", 1), ("ab ac", 1), ("ab bc bd cd", 2), ("ab bc de ea", 2),
                                ("ab ba ab", 1)]:
            moves = [Move("x", word[0], word[1]) for word in words.split()]
            self.fails(InvalidMoves, {"position": position}, Gift, 1, *moves)
            self.fails(InvalidMoves, {"position": position}, Gift, 1, *moves, None)

    def test_what_comes_first_decides(self):
        self.fails(InvalidMoves, {"position": 1}, Gift, 1, ONE, ONE, None)
        self.fails(InvalidMoves, {"position": 1}, Gift, 1, ONE, None, ONE)


class SingleTest(Case):

    def test_the_gift_of_one_move(self):
        for gift in (Gift.single(2, "x", "a", "b"), Gift.single(amount=2, task="x", start="a", goal="b"),
                     Gift.single(goal="b", start="a", task="x", amount=Ratio(2))):
            self.assertIs(gift.__class__, Gift)
            self.assertTrue(gift == Gift(2, ONE))

    def test_wrong_amounts_are_told_first(self):
        for value in NO_GIFT_AMOUNTS:
            self.fails(InvalidNumber, {"value": value}, Gift.single, value, "x", "a", "b")
            self.fails(InvalidNumber, {"value": value}, Gift.single, value, "", "a", "a")
            self.fails(InvalidNumber, {"value": value}, Gift.single, value, "x", "a", "a")

    def test_then_wrong_names_in_their_sequence(self):
        for value in NO_NAMES:
            self.fails(InvalidName, {"value": value}, Gift.single, 1, value, "", "")
            self.fails(InvalidName, {"value": value}, Gift.single, 1, "x", value, None)
            self.fails(InvalidName, {"value": value}, Gift.single, Ratio(1, 2), "x", "a", value)
        self.fails(InvalidName, {"value": "a"}, Gift.single, 1, "x", "a", "a")
        self.fails(InvalidName, {"value": "X"}, Gift.single, 1, "X", "a", "a")


class BackTest(Case):

    def test_the_moves_back_the_last_one_first(self):
        gift = Gift(Ratio(3, 4), ONE, TWO, THREE)
        back = -gift
        self.same_ratio(back.amount, 3, 4)
        self.assertEqual(back.moves(), [Move("x", "d", "c"), Move("y", "c", "b"), Move("x", "b", "a")])
        self.assertEqual((back.start, back.goal, len(back)), ("d", "a", 3))
        self.assertTrue(-back == gift)
        self.assertEqual(gift.moves(), [ONE, TWO, THREE])
        self.assertTrue(-Gift(1, ONE) == Gift(1, Move("x", "b", "a")))


class EqualTest(Case):

    def test_equal_gifts(self):
        self.assertIs(Gift(2, ONE, TWO) == Gift(Ratio(4, 2), Move("x", "a", "b"), Move("y", "b", "c")), True)
        self.assertIs(Gift(2, ONE, TWO) != Gift(2, ONE, TWO), False)

    def test_unlike_gifts(self):
        gift = Gift(2, ONE, TWO)
        for other in (Gift(3, ONE, TWO), Gift(Ratio(1, 2), ONE, TWO), Gift(2, ONE), Gift(2, TWO), -gift,
                      Gift(2, ONE, Move("x", "b", "c")), Gift(2, ONE, TWO, THREE)):
            self.assertIs(gift == other, False)
            self.assertIs(other == gift, False)
            self.assertIs(gift != other, True)

    def test_other_values(self):
        for value in STRANGE + [2, Ratio(2), ONE, [ONE], (2, ONE), "x: a to b", Gift, example(),
                                Plan(example(), {("x", "a"): 6, ("y", "b"): 2, ("z", "c"): 1})]:
            self.assertIs(Gift(2, ONE) == value, False)
            self.assertIs(value == Gift(2, ONE), False)


if __name__ == "__main__":
    unittest.main()
