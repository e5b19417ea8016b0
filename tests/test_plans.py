"""Tests of retime.plans: names [11] and plans [12]."""

import itertools
import unittest

from anything import ANYTHING
from retime.errors import InconsistentLags, InvalidPlan, UnknownName
from retime.plans import Plan, is_name

MILLION = 1000000


def greatest_gap(horizon, lags, first, second):
    """Return the gap that counts between two nodes, as [4] and [5] say, or None."""
    gaps = [gap for one, other, gap in lags if (one, other) == (first, second)]
    if first == "":
        gaps.append(0)
    if second == "":
        gaps.append(-horizon)
    return max(gaps, default=None)


def times_exist(horizon, tasks, lags):
    """Tell by trying all of them whether there are times for which all lags hold."""
    for choice in itertools.product(range(horizon + 1), repeat=len(tasks)):
        at = dict(zip(tasks, choice))
        at[""] = 0
        if all(at[second] - at[first] >= gap for first, second, gap in lags):
            return True
    return False


class NamesTest(unittest.TestCase):
    def test_lengths(self):
        for length in range(0, 12):
            self.assertIs(is_name("a" * length), 1 <= length <= 8)
            self.assertIs(is_name("zyxwvutsrqpo"[:length]), 1 <= length <= 8)

    def test_every_letter(self):
        for letter in "abcdefghijklmnopqrstuvwxyz":
            self.assertIs(is_name(letter), True)

    def test_other_characters_at_each_place(self):
        others = [chr(code) for code in range(128) if not "a" <= chr(code) <= "z"]
        for other in others + ["\u00e4", "\u00df", "\u0430", "\uff41"]:
            for place in range(8):
                word = "abcdefgh"[:place] + other + "abcdefgh"[place + 1:]
                self.assertIs(is_name(word), False, repr(word))
            self.assertIs(is_name(other), False, repr(other))

    def test_a_character_more(self):
        for other in ["\n", " ", "\t", "\r", "0", "9", "A", "Z", "-", "_", "\x00"]:
            for word in ["abc" + other, other + "abc", "a" + other + "bc"]:
                self.assertIs(is_name(word), False, repr(word))

    def test_other_objects(self):
        names = [thing for thing in ANYTHING if is_name(thing)]
        self.assertEqual(names, ["a", "ab"])
        for thing in ANYTHING + [b"abc", 1.5]:
            self.assertIsInstance(is_name(thing), bool)
        self.assertIs(is_name(b"abc"), False)

    def test_by_name(self):
        self.assertIs(is_name(thing="abc"), True)


class PlanTest(unittest.TestCase):
    def test_the_example(self):
        plan = Plan(20, {'b': 3, 'a': 0, 'c': 5}, [('b', 'c', 3), ('a', 'b', 2)])
        self.assertEqual(
            [plan.times(), plan.lags()],
            [{'a': 0, 'b': 3, 'c': 5}, (('a', 'b', 2), ('b', 'c', 3))],
        )
        self.assertEqual(list(plan.times()), ['a', 'b', 'c'])
        self.assertEqual([plan.time('a'), plan.time('b'), plan.time('c')], [0, 3, 5])
        self.assertEqual([plan.horizon, len(plan)], [20, 3])

    def test_a_plan_without_tasks(self):
        for plan in [Plan(0, {}), Plan(0, {}, []), Plan(0, {}, ())]:
            self.assertEqual([plan.horizon, plan.times(), plan.lags(), len(plan)], [0, {}, (), 0])

    def test_the_least_and_the_greatest_horizon(self):
        self.assertEqual(Plan(0, {"a": 0}).times(), {"a": 0})
        plan = Plan(MILLION, {"a": 0, "b": MILLION}, [("a", "b", MILLION), ("b", "a", -MILLION)])
        self.assertEqual(plan.times(), {"a": 0, "b": MILLION})
        self.assertEqual(plan.horizon, MILLION)

    def test_lags_may_be_violated(self):
        self.assertEqual(Plan(9, {"a": 5, "b": 0}, [("a", "b", 9)]).time("b"), 0)

    def test_lags_as_list_and_as_tuple(self):
        lags = [("b", "a", -4), ("a", "b", 2)]
        self.assertEqual(Plan(9, {"a": 0, "b": 2}, lags), Plan(9, {"a": 0, "b": 2}, tuple(lags)))
        self.assertEqual(Plan(9, {"a": 0, "b": 2}, tuple(lags)).lags(), tuple(sorted(lags)))

    def test_the_same_lag_twice_counts_once(self):
        plan = Plan(9, {"a": 0, "b": 2}, [("a", "b", 2), ("a", "b", 2)])
        self.assertEqual(plan.lags(), (("a", "b", 2),))
        self.assertEqual(plan, Plan(9, {"a": 0, "b": 2}, [("a", "b", 2)]))

    def test_lags_that_differ_in_the_gap_only(self):
        plan = Plan(9, {"a": 0, "b": 2}, [("a", "b", 2), ("a", "b", -1), ("a", "b", -2)])
        self.assertEqual(plan.lags(), (("a", "b", -2), ("a", "b", -1), ("a", "b", 2)))

    def test_lags_of_the_origin(self):
        plan = Plan(9, {"a": 3}, [("a", "", -5), ("", "a", 2)])
        self.assertEqual(plan.lags(), (("", "a", 2), ("a", "", -5)))

    def test_implicit_lags_are_not_its_own(self):
        self.assertEqual(Plan(9, {"a": 3}).lags(), ())
        self.assertEqual(Plan(9, {"a": 3}, [("", "a", 0)]).lags(), (("", "a", 0),))

    def test_lags_ascend_by_nodes_then_by_gap(self):
        lags = [("b", "a", -9), ("a", "c", 1), ("a", "", -9), ("", "c", 0), ("a", "b", 1), ("a", "b", -10)]
        plan = Plan(9, {"c": 0, "b": 0, "a": 0}, lags)
        self.assertEqual(plan.lags(), tuple(sorted(lags)))

    def test_a_plan_may_be_large(self):
        names = ["n" + chr(97 + at // 26) + chr(97 + at % 26) for at in range(30)]
        lags = [(names[at], names[at + 1 + step], 1) for step in range(4) for at in range(29 - step)]
        plan = Plan(MILLION, {name: 0 for name in reversed(names)}, lags[:100])
        self.assertEqual([len(plan), len(plan.lags()), list(plan.times())], [30, 100, names])

    def test_arguments_by_name(self):
        plan = Plan(lags=[("a", "b", 1)], times={"a": 0, "b": 1}, horizon=5)
        self.assertEqual(plan, Plan(5, {"a": 0, "b": 1}, [("a", "b", 1)]))
        self.assertEqual(plan.time(name="b"), 1)
        self.assertEqual(Plan(horizon=5, times={"a": 0}).lags(), ())

    def test_arguments_are_copied_and_not_changed(self):
        times = {"b": 1, "a": 0}
        lags = [("b", "a", -5), ("a", "b", 1), ("a", "b", 1)]
        plan = Plan(9, times, lags)
        self.assertEqual(list(times.items()), [("b", 1), ("a", 0)])
        self.assertEqual(lags, [("b", "a", -5), ("a", "b", 1), ("a", "b", 1)])
        times["c"] = 4
        times["a"] = 7
        del times["b"]
        lags.append(("a", "", -3))
        del lags[0]
        self.assertEqual(plan.times(), {"a": 0, "b": 1})
        self.assertEqual([plan.time("a"), plan.time("b"), len(plan)], [0, 1, 2])
        self.assertEqual(plan.lags(), (("a", "b", 1), ("b", "a", -5)))

    def test_each_dict_is_new(self):
        plan = Plan(9, {"b": 1, "a": 0})
        found = plan.times()
        self.assertIsNot(found, plan.times())
        found["a"] = 5
        found["c"] = 5
        del found["b"]
        self.assertEqual(plan.times(), {"a": 0, "b": 1})
        self.assertEqual(list(plan.times()), ["a", "b"])
        self.assertEqual([plan.time("a"), len(plan)], [0, 2])

    def test_kinds_of_values(self):
        plan = Plan(9, {"a": 0, "b": 1}, [("a", "b", 1)])
        self.assertIs(type(plan.times()), dict)
        self.assertIs(type(plan.lags()), tuple)
        self.assertEqual([type(lag) for lag in plan.lags()], [tuple])


class UnknownNameTest(unittest.TestCase):
    def test_any_object_that_is_no_task(self):
        plan = Plan(9, {"a": 0, "b": 1}, [("a", "b", 1)])
        for thing in ANYTHING + ["c", "aa", "A", "a ", "", " ", b"a", 1.5]:
            if thing == "a":
                continue
            with self.subTest(thing=repr(thing)[:40]), self.assertRaises(UnknownName):
                plan.time(thing)

    def test_a_plan_without_tasks_knows_no_name(self):
        for thing in ANYTHING:
            with self.assertRaises(UnknownName):
                Plan(9, {}).time(thing)


class EqualityTest(unittest.TestCase):
    def test_any_order(self):
        times = {"a": 0, "b": 3, "c": 5}
        lags = [("a", "b", 2), ("b", "c", 3), ("c", "", -9)]
        plan = Plan(20, times, lags)
        for names in itertools.permutations(times):
            for order in itertools.permutations(lags):
                other = Plan(20, {name: times[name] for name in names}, list(order))
                self.assertIs(plan == other, True)
                self.assertIs(plan != other, False)

    def test_differences(self):
        plan = Plan(20, {"a": 0, "b": 3}, [("a", "b", 2)])
        others = [
            Plan(21, {"a": 0, "b": 3}, [("a", "b", 2)]),
            Plan(20, {"a": 1, "b": 3}, [("a", "b", 2)]),
            Plan(20, {"a": 0, "b": 3, "c": 0}, [("a", "b", 2)]),
            Plan(20, {"a": 0, "b": 3}, [("a", "b", 3)]),
            Plan(20, {"a": 0, "b": 3}, [("a", "b", 1), ("a", "b", 2)]),
            Plan(20, {"a": 0, "b": 3}, [("a", "b", 2), ("", "a", 0)]),
            Plan(20, {"a": 0, "b": 3}),
            Plan(20, {}),
        ]
        for other in others:
            self.assertIs(plan == other, False)
            self.assertIs(other == plan, False)
            self.assertIs(plan != other, True)

    def test_objects_that_are_no_plans(self):
        for plan in [Plan(0, {}), Plan(20, {"a": 0, "b": 3}, [("a", "b", 2)])]:
            for thing in ANYTHING + [(0, {}, ()), [20, {"a": 0, "b": 3}, [("a", "b", 2)]]]:
                self.assertIs(plan == thing, False)
                self.assertIs(thing == plan, False)
                self.assertIs(plan != thing, True)


class InvalidPlanTest(unittest.TestCase):
    def assert_invalid(self, *arguments):
        with self.subTest(arguments=repr(arguments)[:60]):
            with self.assertRaises(InvalidPlan):
                Plan(*arguments)

    def test_any_object_as_horizon(self):
        for thing in ANYTHING:
            if type(thing) is int and 0 <= thing <= MILLION:
                self.assertEqual(Plan(thing, {}).horizon, thing)
            else:
                self.assert_invalid(thing, {})

    def test_any_object_as_times(self):
        for thing in ANYTHING:
            if thing == {} or thing == {"a": 0}:
                self.assertEqual(Plan(9, thing).times(), thing)
            else:
                self.assert_invalid(9, thing)

    def test_any_object_as_lags(self):
        valid = [[], (), [("a", "b", 1)]]
        for thing in ANYTHING:
            if thing in valid:
                self.assertEqual(Plan(9, {"a": 0, "b": 0}, thing).lags(), tuple(thing))
            else:
                self.assert_invalid(9, {"a": 0, "b": 0}, thing)

    def test_any_object_as_a_lag(self):
        for thing in ANYTHING:
            if thing not in [("a", "b", 1), ("", "a", 0)]:
                self.assert_invalid(9, {"a": 0, "b": 0}, [thing])
                self.assert_invalid(9, {"a": 0, "b": 0}, (("a", "b", 1), thing))

    def test_any_object_as_a_time(self):
        for thing in ANYTHING:
            if not (type(thing) is int and 0 <= thing <= 9):
                self.assert_invalid(9, {"a": thing})
                self.assert_invalid(9, {"b": 0, "a": thing})

    def test_any_object_as_a_node_and_as_a_gap(self):
        for thing in ANYTHING:
            if thing not in ("", "a"):
                self.assert_invalid(9, {"a": 0, "b": 0}, [(thing, "b", 1)])
                self.assert_invalid(9, {"a": 0, "b": 0}, [("b", thing, 1)])
            if type(thing) is not int or abs(thing) > MILLION:
                self.assert_invalid(9, {"a": 0, "b": 0}, [("a", "b", thing)])

    def test_names_that_are_none(self):
        for name in ["", "A", "aB", "a b", "abcdefghi", "a1", "a\n", "-", 0, 5, True, None, ("a",)]:
            self.assert_invalid(9, {name: 0})
            self.assert_invalid(9, {"a": 0, name: 0})

    def test_bools_in_the_place_of_integers(self):
        for flag in [True, False]:
            self.assert_invalid(flag, {})
            self.assert_invalid(flag, {"a": 0})
            self.assert_invalid(9, {"a": flag})
            self.assert_invalid(9, {"a": 0, "b": 0}, [("a", "b", flag)])

    def test_horizons_outside_the_bounds(self):
        for horizon in [-1, MILLION + 1]:
            self.assert_invalid(horizon, {})
            self.assert_invalid(horizon, {"a": 0})

    def test_times_outside_the_bounds(self):
        for horizon in [0, 1, 20, MILLION]:
            self.assert_invalid(horizon, {"a": -1})
            self.assert_invalid(horizon, {"a": horizon + 1})
            self.assertEqual(Plan(horizon, {"a": 0, "b": horizon}).times(), {"a": 0, "b": horizon})

    def test_gaps_outside_the_bounds(self):
        times = {"a": 0, "b": 0}
        for gap in [-MILLION - 1, MILLION + 1]:
            self.assert_invalid(MILLION, times, [("a", "b", gap)])
            self.assert_invalid(MILLION, times, [("a", "", gap)])
            self.assert_invalid(MILLION, times, [("", "a", gap)])
        for gap in [-MILLION, MILLION]:
            self.assertEqual(Plan(MILLION, times, [("a", "b", gap)]).lags(), (("a", "b", gap),))

    def test_lags_of_another_length_or_kind(self):
        for lag in [(), ("a",), ("a", "b"), ("a", "b", 1, 1), ["a", "b", 1], "ab1", {"a": 1, "b": 2, "c": 3}]:
            self.assert_invalid(9, {"a": 0, "b": 0}, [lag])
            self.assert_invalid(9, {"a": 0, "b": 0}, [("a", "b", 1), lag])

    def test_lags_of_equal_or_unknown_nodes(self):
        for first, second in [("a", "a"), ("", ""), ("a", "c"), ("c", "a"), ("", "c"), ("c", ""), ("-", "a")]:
            self.assert_invalid(9, {"a": 0, "b": 0}, [(first, second, -9)])
        self.assert_invalid(9, {}, [("", "a", 0)])

    def test_it_goes_ahead_of_inconsistent_lags(self):
        times = {"a": 0, "b": 0}
        wrong = [("a", "b", 1), ("b", "a", 0)]
        self.assert_invalid(9, times, wrong + [("a", "c", 0)])
        self.assert_invalid(9, times, [("a", "a", 1)] + wrong)
        self.assert_invalid(9, {"a": 0, "b": 10}, wrong)
        self.assert_invalid(-1, times, wrong)


class InconsistentLagsTest(unittest.TestCase):
    def cycle_of(self, horizon, times, lags):
        """Return the cycle of the error, after checking that it is one by [5] and [12]."""
        with self.assertRaises(InconsistentLags) as caught:
            Plan(horizon, times, lags)
        cycle = caught.exception.cycle
        self.assertIs(type(cycle), tuple)
        self.assertGreaterEqual(len(cycle), 2)
        self.assertEqual(len(set(cycle)), len(cycle))
        self.assertLessEqual(set(cycle), set(times) | {""})
        around = cycle[1:] + cycle[:1]
        gaps = [greatest_gap(horizon, lags, one, other) for one, other in zip(cycle, around)]
        self.assertNotIn(None, gaps)
        self.assertGreater(sum(gaps), 0)
        return cycle

    def test_a_total_of_one_and_of_zero(self):
        times = {"a": 0, "b": 0, "c": 0}
        for total in [1, 2, 40]:
            cycle = self.cycle_of(99, times, [("a", "b", 2), ("b", "a", total - 2)])
            self.assertEqual(sorted(cycle), ["a", "b"])
            lags = [("a", "b", 2), ("b", "c", -7), ("c", "a", 5 + total)]
            cycle = self.cycle_of(99, times, lags)
            self.assertIn(cycle, [("a", "b", "c"), ("b", "c", "a"), ("c", "a", "b")])
        for total in [0, -1, -40]:
            Plan(99, times, [("a", "b", 2), ("b", "a", total - 2)])
            Plan(99, times, [("a", "b", 2), ("b", "c", -7), ("c", "a", 5 + total)])

    def test_cycles_through_the_origin(self):
        self.assertEqual(sorted(self.cycle_of(9, {"a": 0}, [("", "a", 10)])), ["", "a"])
        self.assertEqual(sorted(self.cycle_of(9, {"a": 0}, [("a", "", 1)])), ["", "a"])
        self.assertEqual(sorted(self.cycle_of(9, {"a": 0}, [("", "a", 5), ("a", "", -4)])), ["", "a"])
        cycle = self.cycle_of(9, {"a": 0, "b": 0}, [("a", "b", 10)])
        self.assertIn(cycle, [("", "a", "b"), ("a", "b", ""), ("b", "", "a")])
        Plan(9, {"a": 0}, [("", "a", 9)])
        Plan(9, {"a": 0}, [("a", "", 0)])
        Plan(9, {"a": 0}, [("", "a", 5), ("a", "", -5)])
        Plan(9, {"a": 0, "b": 0}, [("a", "b", 9)])

    def test_a_horizon_of_zero(self):
        Plan(0, {"a": 0, "b": 0}, [("a", "b", 0), ("b", "a", 0), ("", "a", 0), ("a", "", 0)])
        self.cycle_of(0, {"a": 0, "b": 0}, [("a", "b", 1)])
        self.cycle_of(0, {"a": 0}, [("", "a", 1)])

    def test_a_chain_that_is_longer_than_the_horizon(self):
        times = {"a": 0, "b": 0, "c": 0, "d": 0}
        lags = [("a", "b", 3), ("b", "c", 3), ("c", "d", 3)]
        Plan(9, times, lags)
        self.assertEqual(len(self.cycle_of(8, times, lags)), 5)

    def test_several_lags_between_two_nodes(self):
        times = {"a": 0, "b": 0}
        for gaps in itertools.permutations([3, -5, 1]):
            lags = [("a", "b", gap) for gap in gaps]
            Plan(9, times, [("b", "a", -3)] + lags)
            self.cycle_of(9, times, [("b", "a", -2)] + lags)
            self.cycle_of(9, times, lags + [("b", "a", -2)])

    def test_a_lag_weaker_than_the_implicit_one(self):
        self.assertEqual(len(Plan(9, {"a": 0}, [("", "a", -5), ("a", "", -50)]).lags()), 2)
        self.cycle_of(9, {"a": 0, "b": 0}, [("", "a", -5), ("b", "", -50), ("a", "b", 10)])

    def test_several_cycles(self):
        times = {name: 0 for name in "abcdef"}
        lags = [("a", "b", 1), ("b", "a", 0), ("c", "d", 1), ("d", "c", 0), ("b", "c", 1), ("d", "e", 1)]
        self.cycle_of(99, times, lags)
        self.cycle_of(99, times, list(reversed(lags)))

    def test_a_long_cycle(self):
        names = ["n" + chr(97 + at // 26) + chr(97 + at % 26) for at in range(30)]
        lags = [(names[at], names[(at + 1) % 30], 1) for at in range(29)]
        lags.append((names[29], names[0], -29))
        times = {name: 0 for name in names}
        for order in [lags, list(reversed(lags))]:
            Plan(MILLION, times, order)
            longer = [lag for lag in order if lag[2] == 1] + [(names[29], names[0], -28)]
            self.assertEqual(len(self.cycle_of(MILLION, times, longer)), 30)

    def test_lags_are_consistent_if_and_only_if_times_exist(self):
        pairs = list(itertools.permutations(["", "a", "b"], 2))
        for horizon in [0, 1, 2]:
            for gaps in itertools.product([None, -2, 0, 1], repeat=len(pairs)):
                lags = [(*pair, gap) for pair, gap in zip(pairs, gaps) if gap is not None]
                if times_exist(horizon, ["a", "b"], lags):
                    Plan(horizon, {"a": 0, "b": 0}, lags)
                else:
                    self.cycle_of(horizon, {"a": 0, "b": 0}, lags)

    def test_cycles_of_three_tasks(self):
        pairs = list(itertools.permutations(["a", "b", "c"], 2))
        for gaps in itertools.product([None, -1, 1], repeat=len(pairs)):
            lags = [(*pair, gap) for pair, gap in zip(pairs, gaps) if gap is not None]
            if times_exist(2, ["a", "b", "c"], lags):
                Plan(2, {"c": 0, "b": 2, "a": 0}, lags)
            else:
                self.cycle_of(2, {"c": 0, "b": 2, "a": 0}, lags)


if __name__ == "__main__":
    unittest.main()
