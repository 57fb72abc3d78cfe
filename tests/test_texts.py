"""Stage 9 [91]: the text of a yard, and the wrong line of a text that is none."""

import math
import random
import re
import unittest

from evenloads.errors import InvalidText, InvalidYard
from evenloads.ratios import Ratio
from evenloads.texts import read_yard, yard_text
from evenloads.yards import Yard
from helpers import CHANGES, NO_YARDS, STRANGE, Case, example, names
from oracles import drawn_yard, great_yards, in_time

EXAMPLE = """server a 1
server b 1
server c 2
task x 6: a b
task y 2: b c
task z 1: c
"""
NUMBER = "(0|[1-9][0-9]{0,29})(?:/([1-9][0-9]{0,29}))?"
SIGNS = "ab cz019/-:+.\n_A"


def right_work(text):
    """Whether a text is an AMOUNT in lowest terms with at most thirty digits above and below the stroke."""
    found = re.fullmatch(NUMBER, text)
    if found is None:
        return False
    return found[2] is None or (int(found[2]) > 1 and math.gcd(int(found[1]), int(found[2])) == 1)


def right_lines(lines):
    """Whether a right text begins with these lines, all with a line feed: then they are right themselves."""
    servers, tasks = [], []
    for line in lines:
        found = re.fullmatch("server ([a-z]{1,8}) ([1-9][0-9]{0,2}|1000)", line)
        if found is not None and not tasks:
            servers.append(found[1])
            continue
        found = re.fullmatch("task ([a-z]{1,8}) ([^ ]+):((?: [a-z]{1,8})+)", line)
        if found is None or not right_work(found[2]):
            return False
        places = found[3].split()
        if places != sorted(set(places)) or not set(places) <= set(servers):
            return False
        tasks.append(found[1])
    return (servers == sorted(set(servers)) and tasks == sorted(set(tasks))
            and 1 <= len(servers) <= 12 and len(tasks) <= 24)


def searched_line(text):
    """The wrong line of a text; None if it is right."""
    lines = text.split("\n")
    behind = lines.pop()
    for many in range(1, len(lines) + 1):
        if not right_lines(lines[:many]):
            return many
    return None if behind == "" and lines else len(lines) + 1


class TextsCase(Case):

    def holds(self, text):
        """A text is read, or its wrong line is told, as a search by the words of the document tells."""
        wanted = searched_line(text)
        if wanted is None:
            self.assertEqual(yard_text(read_yard(text)), text)
        else:
            error = self.fails(InvalidText, {"line": wanted}, read_yard, text)
            self.same_integer(error.line, wanted)
        return wanted


class YardTextTest(TextsCase):

    def test_the_documents_example(self):
        self.assertEqual(yard_text(example()), EXAMPLE)
        self.assertEqual(yard_text(yard=example()), EXAMPLE)
        self.assertTrue(read_yard(EXAMPLE) == example())
        self.assertTrue(read_yard(text=EXAMPLE) == example())

    def test_written_and_read_again(self):
        chance = random.Random(101)
        for yard in [drawn_yard(chance) for _ in range(60)] + great_yards(chance):
            text = in_time(self, yard_text, yard)
            found = in_time(self, read_yard, text)
            self.assertTrue(found == yard)
            self.assertEqual(yard_text(found), text)
            self.assertIsNone(searched_line(text))

    def test_without_tasks(self):
        self.assertEqual(yard_text(Yard({"b": 1000, "a": 1})), "server a 1\nserver b 1000\n")
        self.assertTrue(read_yard("server a 1\nserver b 1000\n") == Yard({"a": 1, "b": 1000}))

    def test_names_works_and_places_of_all_kinds(self):
        long = 10 ** 30 - 1
        yard = Yard({"abcdefgh": 7, "zzzzzzzz": 1, "a": 1000},
                    {"zzzzzzzz": (0, ["zzzzzzzz", "a"]), "a": (Ratio(long, long - 1), ["abcdefgh", "a", "zzzzzzzz"]),
                     "task": (long, ["a"]), "server": (Ratio(1, long), ("zzzzzzzz",))})
        wanted = (f"server a 1000\nserver abcdefgh 7\nserver zzzzzzzz 1\ntask a {long}/{long - 1}: a abcdefgh zzzzzzzz\n"
                  f"task server 1/{long}: zzzzzzzz\ntask task {long}: a\ntask zzzzzzzz 0: a zzzzzzzz\n")
        self.assertEqual(yard_text(yard), wanted)
        self.assertTrue(read_yard(wanted) == yard)

    def test_yards_that_were_changed(self):
        yard = read_yard(EXAMPLE)
        for change in CHANGES:
            text = yard_text(yard)
            later = change(yard)
            self.assertTrue(read_yard(yard_text(later)) == later)
            self.assertEqual(yard_text(yard), text)
            self.assertTrue(change(read_yard(text)) == later)
            yard = read_yard(yard_text(later))

    def test_longer_numbers_are_written_but_not_read(self):
        yard = example().with_work("y", 10 ** 30)
        self.assertIn("task y 1" + 30 * "0" + ": b c\n", yard_text(yard))
        self.fails(InvalidText, {"line": 5}, read_yard, yard_text(yard))
        yard = example().with_work("z", Ratio(1, 10 ** 30))
        self.fails(InvalidText, {"line": 6}, read_yard, yard_text(yard))

    def test_values_that_are_no_yards(self):
        for value in NO_YARDS:
            self.fails(InvalidYard, {"value": value}, yard_text, value)
            self.fails(InvalidYard, {"value": value}, yard_text, yard=value)


class WrongLineTest(TextsCase):

    def test_values_that_are_no_strings(self):
        for value in STRANGE + [0, 1, [], [EXAMPLE], (EXAMPLE,), {}, EXAMPLE.encode(), example(), Ratio(1)]:
            self.fails(InvalidText, {"line": None}, read_yard, value)
            self.fails(InvalidText, {"line": None}, read_yard, text=value)

    def test_the_empty_text(self):
        self.fails(InvalidText, {"line": 1}, read_yard, "")
        self.assertEqual(searched_line(""), 1)

    def test_a_sign_away_put_in_or_otherwise(self):
        texts = [EXAMPLE, "server ab 10\nserver b 999\ntask x 12/35: ab b\ntask xy 0: b\n"]
        told = []
        for text in texts:
            for at in range(len(text) + 1):
                told.append(self.holds(text[:at] + text[at + 1:]))
                for sign in SIGNS:
                    told.append(self.holds(text[:at] + sign + text[at:]))
                    told.append(self.holds(text[:at] + sign + text[at + 1:]))
        for line in [None, 1, 2, 3, 4, 5, 6, 7]:
            self.assertIn(line, told)

    def test_lines_away_doubled_exchanged_and_put_in(self):
        lines = EXAMPLE.splitlines(keepends=True)
        further = ["\n", " \n", "server d 1\n", "server a 1\n", "server bb 3\n", "task a 1: a\n", "task zz 1: a b c\n",
                   "x\n", "server\n", "task\n", "task xx 1:\n", "tasks w 1: a\n"]
        for at in range(len(lines) + 1):
            self.holds("".join(lines[:at] + lines[at + 1:]))
            self.holds("".join(lines[:at]))
            self.holds("".join(lines[at:]))
            for other in further + lines:
                self.holds("".join(lines[:at] + [other] + lines[at:]))
                self.holds("".join(lines[:at] + [other] + lines[at + 1:]))
            for second in range(at):
                turned = list(lines)
                turned[second], turned[at - 1] = turned[at - 1], turned[second]
                self.holds("".join(turned))

    def test_the_end(self):
        self.fails(InvalidText, {"line": 6}, read_yard, EXAMPLE[:-1])
        self.fails(InvalidText, {"line": 7}, read_yard, EXAMPLE + "x")
        self.fails(InvalidText, {"line": 7}, read_yard, EXAMPLE + "\n")
        self.fails(InvalidText, {"line": 7}, read_yard, EXAMPLE + " ")
        self.fails(InvalidText, {"line": 7}, read_yard, EXAMPLE + "task zz 1: a")
        self.fails(InvalidText, {"line": 1}, read_yard, "server a 1")
        self.fails(InvalidText, {"line": 1}, read_yard, "\n")
        self.fails(InvalidText, {"line": 1}, read_yard, "\n\n")
        self.fails(InvalidText, {"line": 2}, read_yard, "server a 1\n\n")
        # An earlier wrong line is told ahead of the missing line feed.
        self.fails(InvalidText, {"line": 1}, read_yard, "server a 0\nserver b 1")

    def test_speeds(self):
        for word in ("1", "9", "10", "999", "1000"):
            self.assertIsNone(self.holds(f"server a {word}\n"))
        for word in ("0", "00", "01", "001", "1001", "10000", "-1", "+1", "1/2", "2/1", "1.0", "1e2", "a", "", "1_0",
                     "1" * 30, "9" * 31, "1" * 5000, " 1", "1 "):
            self.assertEqual(self.holds(f"server a {word}\n"), 1)
            self.assertEqual(self.holds(f"server a 1\nserver b {word}\ntask x 1: a\n"), 2)

    def test_works(self):
        nines = "9" * 30
        for word in ("0", "1", "10", "1/2", "12/35", nines, "1/" + nines, nines + "/" + "9" * 29 + "8",
                     "1" + "0" * 29, "7/10"):
            self.assertIsNone(self.holds(f"server a 1\ntask x {word}: a\n"))
        for word in ("-1", "-0", "+1", "00", "01", "0/1", "0/2", "1/1", "1/0", "2/4", "6/3", "1/02", "01/2", "1/-2", "-1/2",
                     "1//2", "/2", "1/", "/", "", "1.5", "1e2", "x", "1/2/3", "9" + nines, "1/9" + nines, "0" + nines,
                     "1" * 5000, "1/" + "3" * 5000, " 1", "1 ", "1:", ":", "1_0", "0/" + nines):
            self.assertEqual(self.holds(f"server a 1\ntask x {word}: a\n"), 2)
        for line in ("task x 1 a", "task x 1 : a", "task x 1:a", "task x 1:", "task x 1: ", "task x: a", "task 1: a",
                     "task x 1: a ", "task x 1:  a", " task x 1: a", "task  x 1: a", "task x  1: a", "task x1: a"):
            self.assertEqual(self.holds(f"server a 1\n{line}\n"), 2)

    def test_places(self):
        head = "server a 1\nserver b 1\nserver c 1\n"
        for places in ("a", "b", "a b", "a c", "b c", "a b c"):
            self.assertIsNone(self.holds(f"{head}task x 1: {places}\n"))
        for places in ("", "d", "x", "b a", "c b a", "a a", "a b b", "a d", "a b c d", "ab", "A", "a,b", "a  b", "a 1"):
            self.assertEqual(self.holds(f"{head}task x 1: {places}\n"), 4)

    def test_names(self):
        for name in ("a", "abcdefgh", "zzzzzzzz", "server", "task"):
            self.assertIsNone(self.holds(f"server {name} 1\n"))
            self.assertIsNone(self.holds(f"server a 1\ntask {name} 1: a\n"))
        for name in ("abcdefghi", "A", "a1", "1", "", "a-b", "a_b", "a:", "-"):
            self.assertEqual(self.holds(f"server {name} 1\n"), 1)
            self.assertEqual(self.holds(f"server a 1\ntask {name} 1: a\n"), 2)
        for first, second in [("b", "a"), ("a", "a"), ("b", "ab"), ("ab", "a"), ("zzzzzzzz", "z")]:
            self.assertEqual(self.holds(f"server {first} 1\nserver {second} 1\n"), 2)
            self.assertEqual(self.holds(f"server a 1\ntask {first} 1: a\ntask {second} 1: a\n"), 3)

    def test_limits(self):
        servers = [f"server {name} 1\n" for name in names("s", 14)]
        tasks = [f"task {name} 1: sa\n" for name in names("t", 26)]
        self.assertIsNone(self.holds("".join(servers[:12] + tasks[:24])))
        self.assertEqual(self.holds("".join(servers[:13])), 13)
        self.assertEqual(self.holds("".join(servers[:13] + tasks)), 13)
        self.assertEqual(self.holds("".join(servers[:12] + tasks[:25])), 37)
        self.assertEqual(self.holds("".join(servers[:1] + tasks[:25])), 26)
        self.assertEqual(self.holds("".join(servers[:3] + tasks[:2] + servers[3:4])), 6)
        self.assertEqual(self.holds("".join(tasks[:2] + servers[:2])), 1)
        self.assertEqual(self.holds("".join(tasks[:2])), 1)

    def test_drawn_texts(self):
        chance = random.Random(102)
        told = []
        for _ in range(400):
            text = yard_text(drawn_yard(chance))
            for _ in range(chance.randint(1, 2)):
                at = chance.randint(0, len(text))
                text = text[:at] + chance.choice(["", "", *SIGNS]) + text[at + chance.randint(0, 1):]
            told.append(self.holds(text))
        self.assertGreater(told.count(None), 10)

    def test_a_long_text(self):
        in_time(self, self.holds, "server a 1\n" * 1500)
        in_time(self, self.holds, "a" * 20000)
        in_time(self, self.holds, "\n" * 20000)
        in_time(self, self.holds, "server a 1\ntask x 1:" + " a" * 9000 + "\n")


if __name__ == "__main__":
    unittest.main()
