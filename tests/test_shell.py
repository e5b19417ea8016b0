"""Tests of retime.shell: lines of words [31]."""

import itertools
import random
import unittest

import drawn
from anything import ANYTHING
from retime.chains import distance
from retime.errors import (
    DuplicateName, InconsistentLags, InvalidEdit, InvalidLine, InvalidName, InvalidPlan, InvalidPrices, NoRepair,
    RetimeError, UnknownMark, UnknownName,
)
from retime.plans import Plan
from retime.registry import Registry
from retime.shell import Shell
from retime.slack import slack
from retime.text import parse_plan

# Each line with words that example() can execute, and what the words stand for.
LINES = {
    "create more 20": ["name", "number"],
    "remove main": ["name"],
    "mark two": ["name"],
    "back one": ["name"],
    "price main b 7": ["name", "name", "amount"],
    "price main b firm": ["name", "name", "amount"],
    "task main c 5": ["name", "name", "number"],
    "drop main b": ["name", "name"],
    "time main a 2": ["name", "name", "number"],
    "lag main a b 8": ["name", "node", "node", "gap"],
    "lag main - b -8": ["name", "node", "node", "gap"],
    "unlag main a b 7": ["name", "node", "node", "gap"],
    "show main": ["name"],
    "distance main a b": ["name", "node", "node"],
    "distance main - b": ["name", "node", "node"],
    "slack main a": ["name", "name"],
    "spent main": ["name"],
    "names": [],
}
WORDS = sorted({line.split(" ")[0] for line in LINES})


def example():
    """Return the shell of the document's example, with a mark."""
    shell = Shell()
    for line in [
        "create main 20", "task main a 0", "task main b 3", "lag main a b 2", "price main b 4", "lag main a b 7", "mark one",
    ]:
        shell.run(line)
    return shell


def state_of(shell):
    """Return what can be seen of a shell."""
    names = shell.run("names").split(" ")
    if names == ["-"]:
        return []
    return [(name, shell.run("show " + name), shell.run("spent " + name)) for name in names]


class ShellCase(unittest.TestCase):
    def assert_fails(self, shell, error, line):
        """Check that a line raises an error and changes nothing; return the error."""
        seen = state_of(shell)
        with self.subTest(line=repr(line)[:60]), self.assertRaises(error) as caught:
            shell.run(line)
        self.assertIs(type(caught.exception), error)
        self.assertEqual(state_of(shell), seen)
        return caught.exception

    def assert_answers(self, shell, answers):
        """Check the answers to the lines of a dict, one after the other."""
        for line, answer in answers.items():
            found = shell.run(line)
            self.assertIs(type(found), str)
            self.assertEqual(found, answer, line)


class LinesTest(ShellCase):
    def test_the_example(self):
        shell = Shell()
        found = [shell.run('create main 20'), shell.run('task main a 0'), shell.run('task main b 3')]
        self.assertEqual(found, ['ok', '0', '0'])
        found = [shell.run('lag main a b 2'), shell.run('price main b 4'), shell.run('lag main a b 7')]
        self.assertEqual(found, ['0', 'ok', '4'])
        found = [shell.run('show main'), shell.run('distance main a b'), shell.run('slack main a')]
        self.assertEqual(found, ['20 / a 0 / b 7 / a b 2 / a b 7', '7', '0 0'])

    def test_an_empty_shell(self):
        self.assert_answers(Shell(), {"names": "-"})
        for line in LINES:
            if line.split(" ")[0] not in ("names", "create", "mark"):
                self.assert_fails(Shell(), UnknownMark if line.startswith("back") else UnknownName, line)

    def test_create_remove_and_names(self):
        shell = Shell()
        self.assert_answers(shell, {"create zz 0": "ok", "create b 1000000": "ok", "create ab 7": "ok"})
        self.assert_answers(shell, {"names": "ab b zz", "show b": "1000000", "show zz": "0", "spent ab": "0"})
        self.assert_answers(shell, {"remove b": "ok", "names": "ab zz", "remove ab": "ok", "remove zz": "ok"})
        self.assert_answers(shell, {"names": "-", "create b 3": "ok", "show b": "3"})

    def test_mark_and_back(self):
        shell = example()
        seen = state_of(shell)
        self.assert_answers(shell, {"drop main a": "0", "price main b 9": "ok", "create more 3": "ok", "mark main": "ok"})
        self.assert_answers(shell, {"back one": "ok"})
        self.assertEqual(state_of(shell), seen)
        self.assert_answers(shell, {"lag main - b 8": "4", "back main": "ok", "names": "main more", "show main": "20 / b 7"})

    def test_price_and_firm(self):
        shell = example()
        self.assert_answers(shell, {"price main b 7": "ok", "lag main - b 9": "7", "spent main": "11"})
        self.assert_answers(shell, {"price main b firm": "ok"})
        self.assertEqual(self.assert_fails(shell, NoRepair, "lag main - b 11").pair, ("", "b"))
        self.assert_answers(shell, {"price main b 999": "ok", "lag main - b 11": "999", "price main b 1": "ok"})
        self.assert_answers(shell, {"lag main - b 12": "1", "spent main": "1011"})
        for amount in ["0", "1000", "9999999"]:
            self.assert_fails(shell, InvalidPrices, "price main b " + amount)

    def test_the_task_of_a_line_task_or_time_is_held(self):
        shell = example()
        self.assert_answers(shell, {"price main a 1": "ok", "time main a 2": "4", "show main": "20 / a 2 / b 9 / a b 2 / a b 7"})
        self.assertEqual(self.assert_fails(shell, NoRepair, "time main a 14").pair, ("a", ""))
        self.assert_answers(shell, {"time main b 8": "1", "show main": "20 / a 0 / b 8 / a b 2 / a b 7"})
        self.assertEqual(self.assert_fails(shell, NoRepair, "time main b 6").pair, ("", "b"))
        self.assert_answers(shell, {"drop main a": "0", "drop main b": "0", "task main b 4": "0", "task main a 2": "0"})

    def test_the_task_of_another_line_is_not_held(self):
        shell = example()
        self.assert_answers(shell, {"price main a 1": "ok", "lag main - a 3": "5", "unlag main - a 3": "0"})
        self.assert_answers(shell, {"show main": "20 / a 3 / b 10 / a b 2 / a b 7"})

    def test_lags_of_the_origin(self):
        shell = example()
        self.assert_answers(shell, {"lag main - b 6": "0", "lag main b - -9": "0", "distance main - b": "7"})
        self.assert_answers(shell, {"show main": "20 / a 0 / b 7 / - b 6 / a b 2 / a b 7 / b - -9", "distance main b -": "-9"})
        self.assert_answers(shell, {"distance main - -": "0", "slack main b": "7 9", "slack main a": "0 0"})
        self.assert_answers(shell, {"unlag main - b 6": "0", "unlag main b - -9": "0", "distance main b -": "-20"})
        self.assert_answers(shell, {"show main": "20 / a 0 / b 7 / a b 2 / a b 7"})

    def test_lag_and_unlag(self):
        shell = example()
        self.assert_answers(shell, {"unlag main a b 7": "0", "lag main b a -9": "0", "lag main a b 0": "0"})
        self.assert_answers(shell, {"show main": "20 / a 0 / b 7 / a b 0 / a b 2 / b a -9", "slack main b": "2 9"})

    def test_distance_and_slack(self):
        shell = example()
        self.assert_answers(shell, {"distance main a a": "0", "distance main b a": "-20", "distance main - a": "0"})
        self.assert_answers(shell, {"slack main b": "7 20", "time main b 20": "0", "slack main a": "0 13"})

    def test_queries_of_unknown_names(self):
        shell = example()
        shell.run("create more 5")
        for line in [
            "show z", "spent z", "remove z", "distance z a b", "slack z a", "distance main z a", "distance main a z",
            "distance main z z", "slack main z", "slack main -", "slack more a", "distance more a -", "show one",
            "price z a 1", "price main z 1", "price main - 1", "task z a 1", "drop z a", "time z a 1", "lag z a b 1",
        ]:
            self.assert_fails(shell, UnknownName, line)
        self.assert_answers(shell, {"distance more - -": "0"})

    def test_the_errors_of_the_registry(self):
        shell = example()
        for error, line in [
            (InvalidName, "create A 5"), (InvalidName, "create abcdefghi 5"), (InvalidName, "create - 5"),
            (InvalidName, "mark A"), (InvalidName, "mark -"), (InvalidName, "mark one2"),
            (DuplicateName, "create main 5"), (DuplicateName, "create main 9999999"), (DuplicateName, "mark one"),
            (InvalidPlan, "create more 1000001"), (InvalidPlan, "create more 9999999"),
            (UnknownMark, "back main"), (UnknownMark, "back two"), (UnknownMark, "back -"), (UnknownMark, "back ONE"),
            (InvalidEdit, "task main a 1"), (InvalidEdit, "task main c 21"), (InvalidEdit, "task main C 1"),
            (InvalidEdit, "task main - 1"), (InvalidEdit, "drop main c"), (InvalidEdit, "drop main -"),
            (InvalidEdit, "time main c 1"), (InvalidEdit, "time main a 21"), (InvalidEdit, "time main - 0"),
            (InvalidEdit, "lag main a b 2"), (InvalidEdit, "lag main a a 0"), (InvalidEdit, "lag main - - 0"),
            (InvalidEdit, "lag main a c 0"), (InvalidEdit, "lag main a b 1000001"), (InvalidEdit, "lag main a b -9999999"),
            (InvalidEdit, "unlag main a b 3"), (InvalidEdit, "unlag main - a 0"), (InvalidEdit, "unlag main b a 2"),
            (InconsistentLags, "lag main b a -6"), (InconsistentLags, "lag main - a 14"), (NoRepair, "lag main - a 1"),
        ]:
            caught = self.assert_fails(shell, error, line)
            if error is InvalidEdit:
                self.assertEqual(caught.index, 0)

    def test_any_word_in_the_place_of_a_name(self):
        shell = example()
        for word in ["a\tb", "\n", "\t", "main\n", "\tmain", "Main", "-", "--", "0", "7", "firm", "~", "'main'", "x" * 5000, "names"]:
            for line in ["show {}", "spent {}", "remove {}", "distance {} a b", "slack {} a", "price {} a 1", "task {} a 1",
                         "drop {} a", "time {} a 1", "lag {} a b 1", "unlag {} a b 1", "price main {} 1", "slack main {}"]:
                self.assert_fails(shell, UnknownName, line.format(word))
            self.assert_fails(shell, UnknownMark, f"back {word}")
            if word not in ("names", "firm"):
                self.assert_fails(shell, InvalidName, f"create {word} 5")
                self.assert_fails(shell, InvalidName, f"mark {word}")
                self.assert_fails(shell, InvalidEdit, f"task main {word} 1")
            for line in ["drop main {}", "time main {} 1"]:
                self.assert_fails(shell, InvalidEdit, line.format(word))
            if word != "-":
                for line in ["distance main {} a", "distance main a {}"]:
                    self.assert_fails(shell, UnknownName, line.format(word))
                for line in ["lag main {} b 1", "lag main a {} 1", "unlag main {} b 2"]:
                    self.assert_fails(shell, InvalidEdit, line.format(word))


class NumbersTest(ShellCase):
    PLACES = ["create more {}", "price main b {}", "task main c {}", "time main a {}"]
    GAPS = ["lag main a b {}", "lag main - b {}", "unlag main a b {}"]

    def test_words_that_are_no_numbers(self):
        shell = example()
        for word in [
            "00", "01", "007", "0000000", "+1", "+0", "--1", "1-", "12345678", "00000001", "10000000", "9" * 5000, "1.0",
            "1e2", "0x1", "1_0", "a", "-", "\n", "1\n", "\t1", "1\t", "\u0663", "\u00b2", "\uff11", "1\u0663", "None", "-a", "- ",
        ]:
            for line in self.PLACES + self.GAPS:
                self.assert_fails(shell, InvalidLine, line.format(word))

    def test_signs(self):
        shell = example()
        for word in ["-1", "-0", "-7", "-9999999", "-12345678", "-01", "-00", "-+1"]:
            for line in self.PLACES:
                self.assert_fails(shell, InvalidLine, line.format(word))
        for word in ["-0", "-00", "-01", "--1", "-12345678", "-+1", "+-1", "-1-"]:
            for line in self.GAPS:
                self.assert_fails(shell, InvalidLine, line.format(word))

    def test_firm_in_another_place(self):
        shell = example()
        for line in self.PLACES + self.GAPS:
            for word in ["firm", "Firm", "firm\n"]:
                if (line, word) != ("price main b {}", "firm"):
                    self.assert_fails(shell, InvalidLine, line.format(word))

    def test_one_to_seven_digits(self):
        for word in ["0", "1", "9", "10", "20"]:
            self.assert_answers(Shell(), {f"create main {word}": "ok", "show main": word, f"task main a {word}": "0"})
        for number in [0, 1, 7, 10, 999, 1000, 12345, 999999, 1000000]:
            shell = Shell()
            self.assert_answers(shell, {f"create main {number}": "ok", "show main": str(number)})
            self.assert_answers(shell, {f"task main a {number}": "0", "show main": f"{number} / a {number}"})
            self.assert_answers(shell, {"task main b 0": "0", f"lag main a b {-number}": "0"})
            self.assert_answers(shell, {"distance main a b": str(-number)})
        for number in [1000001, 9999999]:
            self.assert_fails(Shell(), InvalidPlan, f"create main {number}")

    def test_gaps(self):
        shell = example()
        for gap in [-1000000, -20, -1, 0, 1]:
            self.assert_answers(shell, {f"lag main a b {gap}": "0", f"unlag main a b {gap}": "0"})


class InvalidLinesTest(ShellCase):
    def test_each_line_is_one(self):
        for line in LINES:
            self.assertIs(type(example().run(line)), str)

    def test_any_object(self):
        shell = example()
        for thing in ANYTHING + [["names"], ("names",), {"names": 1}, b"names", " ", "  ", "Names", "\n", "-", "task"]:
            self.assert_fails(shell, InvalidLine, thing)

    def test_words_removed_added_or_empty(self):
        shell = example()
        for line in LINES:
            words = line.split(" ")
            for at in range(len(words)):
                if words[:at] + words[at + 1:] != ["names"]:
                    self.assert_fails(shell, InvalidLine, " ".join(words[:at] + words[at + 1:]))
                self.assert_fails(shell, InvalidLine, " ".join(words[:at] + [""] + words[at + 1:]))
            for at in range(len(words) + 1):
                for more in ["a", "1", "firm", "-", ""]:
                    self.assert_fails(shell, InvalidLine, " ".join(words[:at] + [more] + words[at:]))

    def test_spaces_and_other_blanks(self):
        shell = example()
        for line in LINES:
            words = line.split(" ")
            for other in [" " + line, line + " ", "  " + line, "\t" + line, "\n" + line, line.upper(), line.capitalize()]:
                self.assert_fails(shell, InvalidLine, other)
            for at in range(1, len(words)):
                for between in ["  ", "\t", "\n", " \t ", ""]:
                    self.assert_fails(shell, InvalidLine, " ".join(words[:at]) + between + " ".join(words[at:]))
        for line in ["names\n", "names\t", "\tnames", "na mes"]:
            self.assert_fails(shell, InvalidLine, line)

    def test_other_first_words(self):
        shell = example()
        for word in ["update", "batch", "copy", "log", "plan", "prices", "Create", "created", "", "-", "main", "lags", "run"]:
            for line in LINES:
                self.assert_fails(shell, InvalidLine, " ".join([word] + line.split(" ")[1:]))

    def test_each_first_word_before_each_of_the_others(self):
        kinds = {line: [LINES[line], line.split(" ")] for line in LINES}
        for line, (form, words) in kinds.items():
            for word in WORDS:
                forms = [some for some, other in kinds.values() if other[0] == word]
                is_one = any(len(form) == len(some) and all(
                    is_good(kind, text) for kind, text in zip(some, words[1:])) for some in forms)
                shell = example()
                other = " ".join([word] + words[1:])
                if not is_one:
                    self.assert_fails(shell, InvalidLine, other)
                    continue
                try:
                    self.assertIs(type(shell.run(other)), str)
                except RetimeError as error:
                    self.assertIsNot(type(error), InvalidLine)

    def test_it_goes_ahead_of_every_other_error(self):
        shell = example()
        for line in [
            "create main x", "create A -1", "price z a -1", "price main z 00", "task z A +1", "time main z 01", "lag z z z -0",
            "unlag main a a --1", "show z z", "distance z", "slack main z z", "spent", "remove z z", "mark one one", "back",
            "drop z", "drop main z 1", "task main a", "lag main a b", "create main",
        ]:
            self.assert_fails(shell, InvalidLine, line)


def is_good(kind, word):
    """Tell whether one of the words of LINES can stand in a place."""
    if kind in ("name", "node"):
        return True
    digits = word.removeprefix("-") if kind == "gap" else word
    return (kind == "amount" and word == "firm") or digits.isdigit()


class DrawnTest(ShellCase):
    def draw_line(self, dice, names):
        """Return a line, most of them with good words."""
        line = dice.choice(list(LINES))
        words = line.split(" ")
        for at, kind in enumerate(LINES[line]):
            if at == 0 and kind == "name":
                words[1] = dice.choice(names)
            elif kind in ("name", "node"):
                words[1 + at] = dice.choice(["x", "y", "z", "-"] if kind == "node" else ["x", "y", "z"])
            elif words[1 + at] != "firm":
                words[1 + at] = str(dice.randint(-4 if kind == "gap" else 0, 10))
        return " ".join(words)

    def answer_of(self, registry, line):
        """Return the answer to a line by way of the registry."""
        word, *rest = line.split(" ")
        nodes = ["" if text == "-" else text for text in rest]
        if word == "create":
            return registry.create(rest[0], int(rest[1])) or "ok"
        if word in ("remove", "mark", "back"):
            return getattr(registry, word)(rest[0]) or "ok"
        if word == "price":
            return registry.price(rest[0], rest[1], None if rest[2] == "firm" else int(rest[2])) or "ok"
        if word in ("task", "time"):
            return str(registry.update(rest[0], [(word, rest[1], int(rest[2]))], [rest[1]]))
        if word == "drop":
            return str(registry.update(rest[0], [(word, rest[1])], []))
        if word in ("lag", "unlag"):
            return str(registry.update(rest[0], [(word, nodes[1], nodes[2], int(rest[3]))], []))
        if word == "distance":
            return str(distance(registry.plan(rest[0]), nodes[1], nodes[2]))
        if word == "slack":
            return " ".join(map(str, slack(registry.plan(rest[0]), rest[1])))
        if word == "spent":
            return str(registry.spent(rest[0]))
        return " ".join(registry.names()) or "-"

    def test_drawn_lines_as_in_a_registry(self):
        dice = random.Random(231)
        seen = {True: 0, False: 0}
        for _ in range(60):
            shell, registry = Shell(), Registry()
            for line in ["create main 9", "task main x 2", "task main y 5"]:
                self.assertEqual(shell.run(line), self.answer_of(registry, line))
            for _ in range(25):
                line = self.draw_line(dice, ["main", "main", "main", "more"])
                if line.startswith("show"):
                    continue
                try:
                    expected = self.answer_of(registry, line)
                except RetimeError as error:
                    self.assert_fails(shell, type(error), line)
                    seen[False] += 1
                    continue
                self.assert_answers(shell, {line: expected})
                seen[True] += 1
                self.assert_shown(shell, registry)
        self.assertGreater(min(seen.values()), 200)

    def assert_shown(self, shell, registry):
        for name in registry.names():
            text = shell.run("show " + name).replace(" / ", "\n")
            self.assertEqual(parse_plan(text), registry.plan(name))
            self.assertEqual(shell.run("spent " + name), str(registry.spent(name)))


class SeveralTest(ShellCase):
    def test_shells_are_independent(self):
        first, second = example(), example()
        first.run("remove main")
        self.assertEqual([first.run("names"), second.run("names")], ["-", "main"])

    def test_by_name(self):
        self.assertEqual(Shell().run(line="names"), "-")

    def test_thirty_tasks(self):
        shell = Shell()
        shell.run("create main 1000")
        names = drawn.long_names(30)
        for at, name in enumerate(names):
            self.assertEqual(shell.run(f"task main {name} {at}"), "0")
        for one, other in itertools.pairwise(names):
            self.assertEqual(shell.run(f"lag main {one} {other} 1"), "0")
        for name in names[1:]:
            shell.run(f"price main {name} 3")
        self.assertEqual(shell.run(f"time main {names[0]} 5"), str(29 * 3))
        expected = Plan(1000, {name: 5 + at for at, name in enumerate(names)}, [(*pair, 1) for pair in itertools.pairwise(names)])
        self.assertEqual(parse_plan(shell.run("show main").replace(" / ", "\n")), expected)


if __name__ == "__main__":
    unittest.main()
