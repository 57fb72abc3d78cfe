"""Stage 6: the errors of evenloads/spans.py, several at once in their sequence."""

import unittest

from evenloads.errors import InvalidNumber, InvalidServers, InvalidYard, OutOfSpan, UnknownPlace, UnknownServer
from evenloads.errors import UnknownTask
from evenloads.ratios import Ratio
from evenloads.spans import cap, capping_set, claim, least_places, lift, lifting_set, plan_giving, room, span
from evenloads.spans import spare_places, sure_places
from helpers import NO_NUMBERS, NO_SERVERS, NO_SETS, NO_TASKS, NO_YARDS, Case, example

# What each function takes behind the yard.
PLACED = [(span, ()), (capping_set, ()), (lifting_set, ()), (plan_giving, (1,)), (cap, (["a"],)), (lift, (["a"],))]
WRONG_PLACES = [("x", "c"), ("y", "a"), ("z", "a"), ("z", "b")]


class ErrorsTest(Case):

    def test_values_that_are_no_yards(self):
        for value in NO_YARDS:
            for call in (sure_places, spare_places):
                self.fails(InvalidYard, {"value": value}, call, value)
                self.fails(InvalidYard, {"value": value}, call, yard=value)
            self.fails(InvalidYard, {"value": value}, least_places, value, None)
            self.fails(InvalidYard, {"value": value}, room, value, None)
            self.fails(InvalidYard, {"value": value}, claim, value, None, None)
            for call, more in PLACED:
                self.fails(InvalidYard, {"value": value}, call, value, "x", "a", *more)
                self.fails(InvalidYard, {"value": value}, call, value, None, None, *[None for _ in more])

    def test_values_that_are_no_tasks(self):
        for value in NO_TASKS:
            self.fails(UnknownTask, {"value": value}, least_places, example(), value)
            self.fails(UnknownTask, {"value": value}, claim, example(), value, ["a"])
            self.fails(UnknownTask, {"value": value}, claim, example(), value, None)
            for call, more in PLACED:
                self.fails(UnknownTask, {"value": value}, call, example(), value, "a", *more)
                self.fails(UnknownTask, {"value": value}, call, example(), value, "q", *[None for _ in more])

    def test_values_that_are_no_servers(self):
        for value in NO_SERVERS:
            for call, more in PLACED:
                self.fails(UnknownServer, {"value": value}, call, example(), "x", value, *more)
                self.fails(UnknownServer, {"value": value}, call, example(), "x", value, *[None for _ in more])

    def test_values_that_are_no_sets_of_servers(self):
        for value in NO_SETS:
            self.fails(InvalidServers, {"value": value}, room, example(), value)
            self.fails(InvalidServers, {"value": value}, claim, example(), "x", value)
            for call in (cap, lift):
                self.fails(InvalidServers, {"value": value}, call, example(), "x", "a", value)
                self.fails(InvalidServers, {"value": value}, call, example(), "x", "c", value)
                self.fails(InvalidServers, {"value": value}, call, servers=value, server="a", task="z",
                           yard=example())

    def test_values_that_are_no_numbers(self):
        for value in NO_NUMBERS:
            self.fails(InvalidNumber, {"value": value}, plan_giving, example(), "x", "a", value)
            self.fails(InvalidNumber, {"value": value}, plan_giving, example(), "x", "c", value)
            self.fails(InvalidNumber, {"value": value}, plan_giving, amount=value, server="b", task="z",
                       yard=example())

    def test_servers_that_are_no_place_of_the_task(self):
        for pair in WRONG_PLACES:
            for call, more in PLACED:
                self.fails(UnknownPlace, {"value": pair}, call, example(), *pair, *more)
            for servers in ([], ["a", "b", "c"], (pair[1],)):
                for call in (cap, lift):
                    self.fails(UnknownPlace, {"value": pair}, call, example(), *pair, servers)
            for amount in (0, -1, Ratio(1, 2), 100):
                self.fails(UnknownPlace, {"value": pair}, plan_giving, example(), *pair, amount)

    def test_out_of_span_is_told_last(self):
        for amount in (-1, 0, Ratio(5, 2), 4, Ratio(7, 2), 6):
            self.fails(OutOfSpan, {"value": amount}, plan_giving, example(), "x", "a", amount)


if __name__ == "__main__":
    unittest.main()
