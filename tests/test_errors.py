"""The interface, "Errors": every class, its attributes, its constructor and its one base."""

import unittest

from evenloads import errors
from evenloads.ratios import Ratio
from evenloads.yards import Yard
from helpers import Case

FAMILIES = {
    "LoadError": (ValueError, {
        "InvalidNumber": ["value"], "InvalidName": ["value"], "InvalidMoves": ["position"],
        "InvalidServers": ["value"], "InvalidSpeed": ["server"], "InvalidTasks": ["value"],
        "InvalidTask": ["name"], "InvalidWork": ["value"], "InvalidYard": ["value"],
        "InvalidAmounts": ["value"], "WrongSum": ["name"], "InvalidPlan": ["value"],
        "InvalidGift": ["value"], "InvalidShare": ["value"], "InvalidLines": ["position"],
        "InvalidBounds": ["value"], "InvalidAssignment": ["value"], "InvalidText": ["line"],
        "InvalidClaim": ["value"], "InvalidCommand": ["value"]}),
    "MissingError": (LookupError, {
        "UnknownServer": ["value"], "UnknownTask": ["value"], "UnknownPlace": ["value"]}),
    "StateError": (RuntimeError, {
        "ServerTaken": ["value"], "TaskTaken": ["value"], "PlaceTaken": ["value"], "LastPlace": ["value"],
        "OtherServers": ["one", "other"], "OtherYard": ["one", "other"], "Impossible": ["position"],
        "Overfull": ["bar"], "OutOfSpan": ["value"], "NotWhole": ["value"], "NothingToUndo": [],
        "CommandFailed": ["position"]}),
    "LimitError": (ArithmeticError, {"DividedByZero": [], "TooMany": ["what", "limit"]}),
}

VALUES = [None, True, False, 0, -3, 10 ** 30, "", "abc", b"x", [], [1, [2]], (), ("x", "a"), {}, {"a": [1]},
          {1}, Ratio(1, 2), Yard({"a": 1}), Yard, len, object(), ValueError("x")]


def every_class():
    """Tuples (name, class, base, names of the attributes) of all errors but the bases."""
    found = []
    for base, (_, members) in FAMILIES.items():
        for name, attributes in members.items():
            found.append((name, getattr(errors, name), getattr(errors, base), attributes))
    return found


class ErrorsTest(Case):

    def test_the_bases(self):
        for name, (builtin, _) in FAMILIES.items():
            self.assertEqual(getattr(errors, name).__bases__, (builtin,))

    def test_each_class_has_its_one_base(self):
        for name, made, base, _ in every_class():
            self.assertEqual(made.__bases__, (base,), name)

    def test_each_class_is_below_its_own_base_alone(self):
        for name, made, base, _ in every_class():
            for other in FAMILIES:
                self.assertEqual(issubclass(made, getattr(errors, other)), other == base.__name__, (name, other))
            for _, (builtin, _) in FAMILIES.items():
                self.assertEqual(issubclass(made, builtin), issubclass(base, builtin), (name, builtin))
            for builtin in (KeyError, IndexError, ZeroDivisionError, OverflowError, TypeError):
                self.assertFalse(issubclass(made, builtin), (name, builtin))

    def test_no_class_is_below_another(self):
        for name, made, _, _ in every_class():
            for other, second, _, _ in every_class():
                self.assertEqual(issubclass(made, second), name == other, (name, other))

    def test_all_are_defined_there_under_their_names(self):
        for name, made, base, _ in every_class():
            for one in (made, base):
                self.assertEqual(one.__module__, "evenloads.errors")
            self.assertEqual(made.__name__, name)
            self.assertIn("__init__", vars(made), name)
        found = [name for name, made in vars(errors).items() if isinstance(made, type)]
        wanted = list(FAMILIES) + [name for name, _, _, _ in every_class()]
        self.assertEqual(sorted(found), sorted(wanted))

    def test_values_by_position_and_by_name(self):
        for name, made, _, attributes in every_class():
            for at, value in enumerate(VALUES):
                values = [value, VALUES[at - 1]][:len(attributes)]
                named = dict(zip(attributes, values))
                for error in (made(*values), made(**named)):
                    self.assertIs(error.__class__, made)
                    for attribute in attributes:
                        self.assertIs(getattr(error, attribute), named[attribute], (name, attribute))

    def test_no_other_attributes(self):
        every = ["value", "position", "server", "name", "line", "one", "other", "bar", "what", "limit"]
        for name, made, _, attributes in every_class():
            error = made(*[1 for _ in attributes])
            self.assertEqual([word for word in every if hasattr(error, word)],
                             [word for word in every if word in attributes], name)

    def test_just_these_parameters(self):
        for name, made, _, attributes in every_class():
            with self.assertRaises(TypeError, msg=name):
                made(*[1 for _ in attributes], 1)
            if attributes:
                with self.assertRaises(TypeError, msg=name):
                    made(*[1 for _ in attributes[1:]])

    def test_raised_and_caught(self):
        for name, made, base, attributes in every_class():
            values = [[name] for _ in attributes]
            for wanted in (made, base, FAMILIES[base.__name__][0]):
                with self.assertRaises(wanted) as caught:
                    raise made(*values)
                self.assertIs(caught.exception.__class__, made)
                for attribute, value in zip(attributes, values):
                    self.assertIs(getattr(caught.exception, attribute), value)


if __name__ == "__main__":
    unittest.main()
