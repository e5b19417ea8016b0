"""Tests of retime.keeping: kept tasks, and the times that they leave to all tasks [17, 18]."""

import itertools
import random
import unittest

import drawn
from anything import ANYTHING
from retime.errors import CannotKeep, InvalidKept
from retime.keeping import can_keep, earliest, latest
from retime.plans import Plan

EXAMPLE = Plan(20, {'a': 0, 'b': 3, 'c': 5}, [('a', 'b', 2), ('b', 'c', 3)])
FUNCTIONS = [can_keep, earliest, latest]


class KeepingCase(unittest.TestCase):
    def assert_pair(self, plan, kept, pair):
        """Check that the tasks cannot be kept, because of the pair."""
        self.assertIs(can_keep(plan, kept), False)
        for function in [earliest, latest]:
            with self.assertRaises(CannotKeep) as caught:
                function(plan, kept)
            self.assertEqual(caught.exception.pair, pair)
            self.assertIs(type(caught.exception.pair), tuple)

    def assert_times(self, plan, kept, first, last):
        self.assertIs(can_keep(plan, kept), True)
        for function, expected in [(earliest, first), (latest, last)]:
            found = function(plan, kept)
            self.assertIs(type(found), dict)
            self.assertEqual(list(found.items()), list(expected.items()))


class ExamplesTest(KeepingCase):
    def test_the_example(self):
        self.assertEqual([can_keep(EXAMPLE, ['c', 'a']), can_keep(EXAMPLE, ['b', 'c'])], [True, False])
        self.assert_times(EXAMPLE, ['a'], {'a': 0, 'b': 2, 'c': 5}, {'a': 0, 'b': 17, 'c': 20})
        self.assert_pair(EXAMPLE, ['b', 'c'], ('b', 'c'))

    def test_list_and_tuple_in_any_order(self):
        for kept in itertools.permutations(["a", "c"]):
            for some in [kept, list(kept)]:
                self.assert_times(EXAMPLE, some, {"a": 0, "b": 2, "c": 5}, {"a": 0, "b": 2, "c": 5})
        for kept in itertools.permutations(["a", "b", "c"]):
            for some in [kept, list(kept)]:
                self.assert_pair(EXAMPLE, some, ("b", "c"))

    def test_nothing_kept(self):
        for kept in [[], ()]:
            self.assert_times(EXAMPLE, kept, {"a": 0, "b": 2, "c": 5}, {"a": 15, "b": 17, "c": 20})
            self.assert_times(Plan(9, {}), kept, {}, {})
            self.assert_times(Plan(0, {"a": 0}), kept, {"a": 0}, {"a": 0})

    def test_all_tasks_kept(self):
        plan = Plan(20, {"b": 3, "a": 0, "c": 6}, [("a", "b", 2), ("b", "c", 3)])
        for kept in itertools.permutations("abc"):
            self.assert_times(plan, kept, {"a": 0, "b": 3, "c": 6}, {"a": 0, "b": 3, "c": 6})

    def test_conflicts_with_the_origin(self):
        plan = Plan(9, {"a": 2, "b": 7, "c": 4}, [("", "a", 3), ("b", "", -5)])
        self.assert_pair(plan, ["a"], ("", "a"))
        self.assert_pair(plan, ["b"], ("b", ""))
        self.assert_pair(plan, ["b", "a"], ("", "a"))
        self.assert_times(plan, ["c"], {"a": 3, "b": 0, "c": 4}, {"a": 9, "b": 5, "c": 4})

    def test_the_smallest_pair(self):
        plan = Plan(99, {"a": 50, "b": 50, "c": 50, "d": 50}, [("d", "a", 1), ("d", "b", 1), ("c", "b", 1)])
        self.assert_pair(plan, ["d", "c", "b", "a"], ("c", "b"))
        self.assert_pair(plan, ["d", "b", "a"], ("d", "a"))
        self.assert_pair(plan, ["b", "d"], ("d", "b"))
        self.assert_times(plan, ["d", "c"], {"a": 51, "b": 51, "c": 50, "d": 50}, {"a": 99, "b": 99, "c": 50, "d": 50})

    def test_the_horizon_counts(self):
        plan = Plan(9, {"a": 8, "b": 9}, [("a", "b", 3)])
        self.assert_pair(plan, ["a"], ("a", ""))
        self.assert_times(plan, ["b"], {"a": 0, "b": 9}, {"a": 6, "b": 9})

    def test_deadlines_and_fixed_distances(self):
        plan = Plan(50, {"a": 5, "b": 9, "c": 30}, [("a", "b", 4), ("b", "a", -4), ("c", "b", -10)])
        self.assert_times(plan, ["c"], {"a": 16, "b": 20, "c": 30}, {"a": 46, "b": 50, "c": 30})
        self.assert_times(plan, ["a"], {"a": 5, "b": 9, "c": 0}, {"a": 5, "b": 9, "c": 19})


class DrawnTest(KeepingCase):
    def test_can_keep_against_all_pairs(self):
        for plan in drawn.draw_plans(41, 100):
            pairs = set(drawn.plain_conflicts(plan))
            for kept in drawn.subsets(plan.times()):
                expected = pairs.isdisjoint(itertools.permutations(["", *kept], 2))
                self.assertIs(can_keep(plan, list(reversed(kept))), expected)

    def test_times_against_all_times(self):
        dice = random.Random(42)
        for plan in drawn.draw_plans(43, 100, most_tasks=4, most_time=5):
            times = plan.times()
            options = drawn.all_times(plan)
            for kept in drawn.subsets(times):
                some = dice.sample(kept, len(kept))
                keeping = [at for at in options if all(at[name] == times[name] for name in kept)]
                if not keeping:
                    bad = [pair for pair in drawn.plain_conflicts(plan) if {*pair} <= {"", *kept}]
                    self.assert_pair(plan, some, min(bad))
                    continue
                first = {name: min(at[name] for at in keeping) for name in times}
                last = {name: max(at[name] for at in keeping) for name in times}
                self.assertIn(first, options)
                self.assertIn(last, options)
                self.assert_times(plan, some, first, last)

    def test_larger_plans(self):
        dice = random.Random(44)
        for plan in drawn.draw_plans(45, 20, 20, 80, 40) + [drawn.row_of_thirty()]:
            table = drawn.table_of(plan)
            at = {"": 0, **plan.times()}
            kept = []
            for name in dice.sample(list(plan.times()), len(plan)):
                if can_keep(plan, kept + [name]):
                    kept.append(name)
            self.assertTrue(can_keep(plan, kept))
            nodes = ["", *kept]
            first = {name: max(at[node] + table[node, name] for node in nodes) for name in plan.times()}
            last = {name: min(at[node] - table[name, node] for node in nodes) for name in plan.times()}
            self.assert_times(plan, kept, first, last)
            for times in [first, last]:
                Plan(plan.horizon, times, plan.lags())
                places = {"": 0, **times}
                self.assertTrue(all(places[other] - places[one] >= gap for one, other, gap in plan.lags()))
                self.assertTrue(all(times[name] == at[name] for name in kept))


class ArgumentsTest(KeepingCase):
    def assert_invalid(self, plan, kept):
        for function in FUNCTIONS:
            with self.subTest(kept=repr(kept)[:40]), self.assertRaises(InvalidKept):
                function(plan, kept)

    def test_any_object(self):
        for thing in ANYTHING + [{"a": 0}, {"a": 0}.keys(), "a", "abc", b"a"]:
            good = isinstance(thing, (list, tuple)) and all(item in ["a", "b", "c"] for item in thing)
            if not good:
                self.assert_invalid(EXAMPLE, thing)
            elif "b" not in thing:
                self.assertIs(can_keep(EXAMPLE, thing), True)

    def test_any_item(self):
        for thing in ANYTHING + ["d", "aa", "A", "a "]:
            if isinstance(thing, str) and thing in ("a", "b", "c"):
                continue
            for kept in [[thing], (thing,), ["a", thing], [thing, "c"], ("a", thing, "c")]:
                self.assert_invalid(EXAMPLE, kept)

    def test_the_origin(self):
        self.assert_invalid(EXAMPLE, [""])
        self.assert_invalid(EXAMPLE, ("a", ""))
        self.assert_invalid(Plan(9, {}), [""])

    def test_duplicates(self):
        for kept in [["a", "a"], ("a", "a"), ["a", "c", "a"], ("c", "a", "c")]:
            self.assert_invalid(EXAMPLE, kept)

    def test_an_invalid_item_goes_ahead_of_a_conflict(self):
        for kept in [["b", "c", "d"], ["b", "c", "b"], ("b", "c", ""), ["b", "c", []], ["b", "c", None], {"b": 1, "c": 1}]:
            self.assert_invalid(EXAMPLE, kept)

    def test_by_name(self):
        self.assertIs(can_keep(kept=["a"], plan=EXAMPLE), True)
        self.assertEqual(earliest(kept=["a"], plan=EXAMPLE), {"a": 0, "b": 2, "c": 5})
        self.assertEqual(latest(kept=["a"], plan=EXAMPLE), {"a": 0, "b": 17, "c": 20})

    def test_each_dict_is_new(self):
        for function in [earliest, latest]:
            found = function(EXAMPLE, ["a"])
            self.assertIsNot(function(EXAMPLE, ["a"]), found)
            again = dict(found)
            found["a"] = 7
            found["d"] = 7
            del found["b"]
            self.assertEqual(function(EXAMPLE, ["a"]), again)
            self.assertEqual(list(function(EXAMPLE, ["a"])), ["a", "b", "c"])

    def test_arguments_stay_as_they_are(self):
        seen = drawn.state_of(EXAMPLE)
        for kept in [["c", "a"], ["c", "b"], ["c", "c"], ["c", ["a"]]]:
            again = list(kept)
            for function in FUNCTIONS:
                try:
                    function(EXAMPLE, kept)
                except (CannotKeep, InvalidKept):
                    pass
            self.assertEqual(kept, again)
        self.assertEqual(drawn.state_of(EXAMPLE), seen)


if __name__ == "__main__":
    unittest.main()
