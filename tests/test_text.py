"""Tests of retime.text: the text format [13, 14]."""

import itertools
import unittest

from anything import ANYTHING
from retime.errors import InconsistentLags, ParseError
from retime.plans import Plan
from retime.text import format_plan, parse_plan

MILLION = 1000000


def large_plan():
    """Return a plan with thirty tasks and a hundred lags."""
    names = ["n" + chr(97 + at // 26) + chr(97 + at % 26) for at in range(30)]
    times = {name: 37 * at % 101 for at, name in enumerate(names)}
    lags = [(names[at], names[at + 1 + step], step - 5) for step in range(4) for at in range(29 - step)]
    return Plan(1000, times, lags[:90] + [(name, "", -900) for name in names[:10]])


PLANS = [
    Plan(0, {}),
    Plan(MILLION, {}),
    Plan(0, {"a": 0}),
    Plan(MILLION, {"abcdefgh": MILLION, "z": 0}),
    Plan(20, {"b": 3, "a": 0}, [("b", "", -9), ("a", "b", 2)]),
    Plan(9, {"a": 3, "b": 0}, [("", "a", 2), ("a", "", -5), ("a", "b", -10), ("a", "b", -9), ("b", "a", 0)]),
    Plan(9, {"b": 3, "a": 7, "aa": 1}, [("b", "a", 1), ("aa", "a", 5), ("", "aa", 0), ("aa", "", -9)]),
    Plan(MILLION, {"a": 0, "b": 0}, [("a", "b", MILLION), ("b", "a", -MILLION)]),
    large_plan(),
]


class FormatTest(unittest.TestCase):
    def test_the_example(self):
        plan = Plan(20, {'a': 0, 'b': 3}, [('b', '', -9), ('a', 'b', 2)])
        self.assertEqual(format_plan(plan), '20\na 0\nb 3\na b 2\nb - -9')

    def test_a_plan_without_tasks(self):
        self.assertEqual(format_plan(Plan(0, {})), "0")
        self.assertEqual(format_plan(Plan(MILLION, {})), "1000000")

    def test_a_plan_without_lags(self):
        self.assertEqual(format_plan(Plan(9, {"b": 9, "a": 0})), "9\na 0\nb 9")

    def test_the_origin_on_both_sides(self):
        plan = Plan(9, {"a": 3}, [("a", "", -5), ("", "a", 2)])
        self.assertEqual(format_plan(plan), "9\na 3\n- a 2\na - -5")

    def test_negative_gaps_ascend_as_numbers(self):
        plan = Plan(9, {"a": 3, "b": 3}, [("a", "b", gap) for gap in [9, -9, -10, 0, -2]])
        self.assertEqual(format_plan(plan), "9\na 3\nb 3\na b -10\na b -9\na b -2\na b 0\na b 9")

    def test_lags_ascend_with_the_origin_first(self):
        plan = Plan(9, {"a": 3, "b": 3}, [("b", "a", 0), ("a", "b", 0), ("a", "", -9), ("", "b", 1), ("", "a", 1)])
        self.assertEqual(format_plan(plan), "9\na 3\nb 3\n- a 1\n- b 1\na - -9\na b 0\nb a 0")

    def test_names_ascend_as_strings(self):
        plan = Plan(9, {"b": 1, "ab": 2, "a": 3, "aa": 4})
        self.assertEqual(format_plan(plan), "9\na 3\naa 4\nab 2\nb 1")

    def test_by_name(self):
        self.assertEqual(format_plan(plan=Plan(3, {})), "3")

    def test_the_plan_is_not_changed(self):
        for plan in PLANS:
            before = (plan.horizon, plan.times(), plan.lags())
            self.assertEqual(format_plan(plan), format_plan(plan))
            self.assertEqual((plan.horizon, plan.times(), plan.lags()), before)


class ParseTest(unittest.TestCase):
    def test_the_result_of_format_plan(self):
        for plan in PLANS:
            text = format_plan(plan)
            again = parse_plan(text)
            self.assertIsInstance(again, Plan)
            self.assertEqual(again, plan)
            self.assertEqual(format_plan(again), text)

    def test_many_small_plans(self):
        pairs = list(itertools.permutations(["", "a", "b"], 2))
        for gaps in itertools.product([None, -2, 1], repeat=len(pairs)):
            lags = [(*pair, gap) for pair, gap in zip(pairs, gaps) if gap is not None]
            try:
                plan = Plan(3, {"a": 3, "b": 0}, lags)
            except InconsistentLags:
                continue
            self.assertEqual(parse_plan(format_plan(plan)), plan)

    def test_by_name(self):
        self.assertEqual(parse_plan(text="9\na 3"), Plan(9, {"a": 3}))

    def test_a_large_plan(self):
        plan = large_plan()
        self.assertEqual([len(plan), len(plan.lags())], [30, 100])
        self.assertEqual(parse_plan(format_plan(plan)), plan)

    def test_lags_that_repeat_implicit_ones(self):
        plan = parse_plan("9\na 3\n- a 0\na - -9")
        self.assertEqual(plan.lags(), (("", "a", 0), ("a", "", -9)))

    def test_violated_lags(self):
        self.assertEqual(parse_plan("9\na 3\nb 3\na b 9").lags(), (("a", "b", 9),))


class ParseErrorTest(unittest.TestCase):
    def assert_wrong(self, text, line):
        with self.subTest(text=repr(text)[:80]):
            with self.assertRaises(ParseError) as caught:
                parse_plan(text)
            self.assertEqual(caught.exception.line, line)
            self.assertIs(type(caught.exception.line), int)

    def test_the_example(self):
        self.assert_wrong('20\nb 3\na 0', 2)

    def test_objects_that_are_not_strings(self):
        for thing in ANYTHING + [b"20", 20, ["20"], ("20",), Plan(20, {})]:
            if not isinstance(thing, str):
                self.assert_wrong(thing, 0)

    def test_strings_that_are_no_plans(self):
        for text in ["", "\n", " ", "a", "-", "- -", "a b", "x" * 5000, "\n\n", "\n20", "0x1", "1e3", "1_0"]:
            self.assert_wrong(text, 0)

    def test_blanks_in_the_first_line(self):
        for text in [" 20", "20 ", "2 0", "20\t", "20\r", "20\r\na 0", "\t20", "20 0", "20\x0b", "20\x0c"]:
            self.assert_wrong(text, 0)

    def test_numbers_in_the_first_line(self):
        for text in ["020", "00", "+20", "-20", "-0", "-1", "1000001", "9999999", "10000000", "1.0", "--1", "2-"]:
            self.assert_wrong(text, 0)
            self.assert_wrong(text + "\na 0", 0)
        self.assertEqual(parse_plan("1000000").horizon, MILLION)
        self.assertEqual(parse_plan("0").horizon, 0)

    def test_digits_of_other_scripts(self):
        for digit in ["\u0661", "\u00b2", "\uff11", "\u0967"]:
            self.assert_wrong(digit, 0)
            self.assert_wrong("20\na " + digit, 1)

    def test_wrong_times(self):
        for word in ["", "00", "01", "+1", "-0", "-1", "21", "100", "x", "1x", "1.0", "1,0", "-", " 1", "1 ", "1\t"]:
            self.assert_wrong("20\na " + word, 1)
            self.assert_wrong("20\na 3\nb " + word, 2)
            self.assert_wrong("20\na 3\nb " + word + "\nc 4", 2)
        self.assertEqual(parse_plan("20\na 20").times(), {"a": 20})

    def test_wrong_names(self):
        for word in ["", "A", "abcdefghi", "a1", "-", "a-", "\t", "a\t", "0"]:
            self.assert_wrong("20\n" + word + " 1", 1)
            self.assert_wrong("20\na 3\n" + word + " 1\nb 2", 2)

    def test_tasks_in_a_wrong_order_or_twice(self):
        self.assert_wrong("20\na 3\na 3", 2)
        self.assert_wrong("20\na 3\na 4", 2)
        self.assert_wrong("20\na 3\nc 3\nb 3\nd 3", 3)
        self.assert_wrong("20\naa 3\na 3", 2)
        self.assert_wrong("20\na 3\nb 3\na b 1\nc 3", 4)

    def test_lines_of_another_number_of_words(self):
        for line in ["", "a", "20", "a 1 ", " a 1", "a  1", "a b c 1", "a 1 2 3"]:
            self.assert_wrong("20\n" + line, 1)
            self.assert_wrong("20\na 1\nb 1\n" + line, 3)
            self.assert_wrong("20\na 1\nb 1\na b 0\n" + line, 4)

    def test_empty_lines(self):
        self.assert_wrong("20\n", 1)
        self.assert_wrong("20\n\na 1", 1)
        self.assert_wrong("20\na 1\n", 2)
        self.assert_wrong("20\na 1\n\nb 1", 2)
        self.assert_wrong("20\na 1\nb 1\na b 0\n", 4)
        self.assert_wrong("20\na 1\nb 1\n\na b 0", 3)

    def test_a_line_feed_behind_each_plan(self):
        for plan in PLANS:
            text = format_plan(plan)
            self.assert_wrong(text + "\n", text.count("\n") + 1)
            self.assert_wrong(text + " ", text.count("\n"))
            self.assert_wrong("\n" + text, 0)

    def test_wrong_gaps(self):
        words = ["", "00", "01", "-01", "+1", "-0", "--1", "x", "1x", "-", " 1", "1 ", "1000001", "-1000001", "99999999"]
        for word in words + ["-" + "9" * 5000, "9" * 5000, "0" * 5000]:
            self.assert_wrong("1000000\na 3\nb 3\na b " + word, 3)
            self.assert_wrong("1000000\na 3\nb 3\n- b 1\na b " + word + "\nb a 0", 4)
        plan = parse_plan("1000000\na 3\nb 3\na b -1000000\na b 1000000")
        self.assertEqual(plan.lags(), (("a", "b", -MILLION), ("a", "b", MILLION)))

    def test_wrong_nodes(self):
        for nodes in ["a a", "- -", "a c", "c a", "- c", "c -", " a", "a ", "-- a", "A b", "a  b", "  a"]:
            self.assert_wrong("20\na 1\nb 1\n" + nodes + " -5", 3)
            self.assert_wrong("20\na 1\nb 1\n- a 0\n" + nodes + " -5\nb a 0", 4)

    def test_the_empty_word_is_not_the_origin(self):
        self.assert_wrong("20\na 1\n a 0", 2)
        self.assert_wrong("20\na 1\na  -20", 2)

    def test_lags_in_a_wrong_order_or_twice(self):
        self.assert_wrong("20\na 1\nb 1\na b 0\na b 0", 4)
        self.assert_wrong("20\na 1\nb 1\na b 0\na b -1", 4)
        self.assert_wrong("20\na 1\nb 1\na b -2\na b -10", 4)
        self.assert_wrong("20\na 1\nb 1\nb a 0\na b 0", 4)
        self.assert_wrong("20\na 1\nb 1\na b 0\na - -20", 4)
        self.assert_wrong("20\na 1\nb 1\na - -20\n- b 0", 4)

    def test_inconsistent_lags(self):
        self.assert_wrong("20\na 1\nb 1\na b 1\nb a 0", 4)
        self.assert_wrong("20\na 1\nb 1\na b 1\nb a -1\nb a 0\nb a 1", 5)
        self.assert_wrong("20\na 1\n- a 21", 2)
        self.assert_wrong("20\na 1\na - 1", 2)
        self.assert_wrong("20\na 1\n- a 5\na - -4", 3)
        self.assert_wrong("20\na 1\nb 1\na b 21", 3)
        self.assert_wrong("20\na 1\nb 1\na b 20\nb - -19", 4)
        self.assert_wrong("0\na 0\nb 0\na b 1", 3)

    def test_the_first_wrong_line_counts(self):
        self.assert_wrong("20\na 1\nb 1\na b 1\nb a 0\nwrong", 4)
        self.assert_wrong("20\na 1\nb 1\na b 1\nwrong\nb a 0", 4)
        self.assert_wrong("20\na 1\nb 1\na b 1\na b 1\nb a 0", 4)
        self.assert_wrong("20\na 21\n\nwrong", 1)
        self.assert_wrong("x\na 21\n\nwrong", 0)

    def test_each_first_line_of_inconsistency(self):
        pairs = list(itertools.permutations(["", "a", "b"], 2))
        for gaps in itertools.product([None, -1, 0, 2], repeat=len(pairs)):
            lags = [(*pair, gap) for pair, gap in zip(pairs, gaps) if gap is not None]
            written = [f"{first or '-'} {second or '-'} {gap}" for first, second, gap in lags]
            text = "\n".join(["2", "a 2", "b 0"] + written)
            good = [many for many in range(len(lags) + 1) if self.are_consistent(lags[:many])]
            if len(good) <= len(lags):
                self.assert_wrong(text, 3 + len(good) - 1)
            else:
                self.assertEqual(format_plan(parse_plan(text)), text)

    def are_consistent(self, lags):
        for times in itertools.product(range(3), repeat=2):
            at = {"": 0, "a": times[0], "b": times[1]}
            if all(at[second] - at[first] >= gap for first, second, gap in lags):
                return True
        return False

    def test_wrong_lines_within_a_large_plan(self):
        lines = format_plan(large_plan()).split("\n")
        self.assertEqual(len(lines), 131)
        for at in range(len(lines)):
            wrong = lines[:at] + [lines[at] + " "] + lines[at + 1:]
            self.assert_wrong("\n".join(wrong), at)
            self.assert_wrong("\n".join(lines[:at] + [""] + lines[at:]), at)
            if at:
                self.assert_wrong("\n".join(lines[:at] + [lines[at - 1]] + lines[at:]), at)

    def test_a_positive_cycle_within_a_large_plan(self):
        lines = format_plan(large_plan()).split("\n")
        lags = [line for line in lines[31:] if not line.startswith("nab ")]
        self.assert_wrong("\n".join(lines[:31] + ["- nab 0", "- nac 1001"] + lags), 32)
        closing = lines + ["nbd naa 0", "nbd nab 0", "nbd nac 901", "nbd nad 0"]
        self.assert_wrong("\n".join(closing), 133)

    def test_long_texts(self):
        self.assert_wrong("20" + "\n" * 100000, 1)
        self.assert_wrong("20\na 1\n" + " " * 100000, 2)
        self.assert_wrong("20\na 1\n" + "9" * 100000, 2)
        self.assert_wrong("9" * 100000, 0)
        self.assert_wrong("20\na 1\n" + "x" * 100000 + " 1", 2)
        self.assert_wrong("20\na 1\nb 1\n" + "a b 0\n" * 100000, 4)


if __name__ == "__main__":
    unittest.main()
