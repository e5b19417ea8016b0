"""Tests of retime.conflicts: lags that do not hold, and nodes that conflict [6, 16]."""

import itertools
import unittest

import drawn
from anything import ANYTHING
from retime.conflicts import after, before, conflicts, violations
from retime.errors import UnknownName
from retime.plans import Plan

EXAMPLE = Plan(20, {'a': 0, 'b': 3, 'c': 5}, [('a', 'b', 2), ('b', 'c', 3)])


class ViolationsTest(unittest.TestCase):
    def test_the_example(self):
        found = [violations(EXAMPLE), conflicts(EXAMPLE), after(EXAMPLE, 'b')]
        self.assertEqual(found, [(('b', 'c', 3),), (('b', 'c'),), ('c',)])

    def test_room_exactly_and_one_too_little(self):
        for time, found in [(9, ()), (6, ()), (5, ()), (4, (("a", "b", 2),)), (3, (("a", "b", 2),)), (0, (("a", "b", 2),))]:
            self.assertEqual(violations(Plan(9, {"a": 3, "b": time}, [("a", "b", 2)])), found)

    def test_negative_gaps(self):
        for time, found in [(9, ()), (1, ()), (0, (("a", "b", -2),))]:
            self.assertEqual(violations(Plan(9, {"a": 3, "b": time}, [("a", "b", -2)])), found)

    def test_lags_of_the_origin(self):
        lags = [("", "a", 3), ("a", "", -5)]
        for time in range(10):
            expected = (("", "a", 3),) if time < 3 else (("a", "", -5),) if time > 5 else ()
            self.assertEqual(violations(Plan(9, {"a": time}, lags)), expected)

    def test_ascending(self):
        lags = [("b", "a", 0), ("a", "c", 9), ("", "c", 1), ("a", "c", 8), ("a", "c", -9), ("c", "b", -9)]
        plan = Plan(9, {"a": 1, "b": 2, "c": 0}, lags)
        self.assertEqual(violations(plan), (("", "c", 1), ("a", "c", 8), ("a", "c", 9), ("b", "a", 0)))

    def test_the_same_lag_twice(self):
        plan = Plan(9, {"a": 3, "b": 0}, [("a", "b", 2), ("a", "b", 2), ("a", "b", 1)])
        self.assertEqual(violations(plan), (("a", "b", 1), ("a", "b", 2)))

    def test_implicit_lags_never_occur(self):
        self.assertEqual(violations(Plan(9, {"a": 0, "b": 9})), ())
        self.assertEqual(violations(Plan(0, {"a": 0, "b": 0})), ())
        self.assertEqual(violations(Plan(9, {})), ())
        for plan in drawn.draw_plans(31, 100):
            self.assertLessEqual(set(violations(plan)), set(plan.lags()))

    def test_drawn_plans(self):
        for plan in drawn.draw_plans(32, 200):
            at = {"": 0, **plan.times()}
            expected = [lag for lag in plan.lags() if at[lag[1]] - at[lag[0]] < lag[2]]
            self.assertEqual(violations(plan), tuple(sorted(expected)))


class ConflictsTest(unittest.TestCase):
    def test_none(self):
        for plan in [Plan(9, {}), Plan(0, {"a": 0}), Plan(9, {"a": 0, "b": 9}, [("a", "b", 9)])]:
            self.assertEqual([conflicts(plan), violations(plan)], [(), ()])
            for node in drawn.nodes_of(plan):
                self.assertEqual([before(plan, node), after(plan, node)], [(), ()])

    def test_along_a_chain_only(self):
        lags = [("a", "b", 2), ("b", "c", 2)]
        plan = Plan(9, {"a": 1, "b": 3, "c": 4}, lags)
        self.assertEqual(conflicts(plan), (("a", "c"), ("b", "c")))
        plan = Plan(9, {"a": 2, "b": 3, "c": 5}, lags)
        self.assertEqual(conflicts(plan), (("a", "b"), ("a", "c")))
        plan = Plan(9, {"a": 2, "b": 3, "c": 4}, lags)
        self.assertEqual(conflicts(plan), (("a", "b"), ("a", "c"), ("b", "c")))

    def test_one_too_little(self):
        for time, found in [(4, (("a", "b"),)), (5, ()), (6, ())]:
            self.assertEqual(conflicts(Plan(9, {"a": 3, "b": time}, [("a", "b", 2)])), found)

    def test_the_origin(self):
        plan = Plan(9, {"a": 2, "b": 7}, [("", "a", 3), ("b", "", -5)])
        self.assertIn(("", "a"), conflicts(plan))
        self.assertIn(("b", ""), conflicts(plan))
        self.assertIn("", before(plan, "a"))
        self.assertIn("", after(plan, "b"))
        self.assertEqual([before(plan, ""), after(plan, "")], [("b",), ("a",)])

    def test_conflicts_through_the_origin(self):
        plan = Plan(9, {"a": 2, "b": 7}, [("", "a", 3), ("b", "", -5)])
        # From b to a the distance is -5 + 3, and a is 5 ahead of b.
        self.assertEqual(conflicts(plan), (("", "a"), ("b", ""), ("b", "a")))
        self.assertEqual([before(plan, "a"), after(plan, "b")], [("", "b"), ("", "a")])

    def test_a_latest_time_by_the_horizon(self):
        plan = Plan(9, {"a": 8, "b": 9}, [("a", "b", 3)])
        self.assertEqual(conflicts(plan), (("a", ""), ("a", "b")))
        plan = Plan(9, {"a": 0, "b": 1}, [("a", "b", 3)])
        self.assertEqual(conflicts(plan), (("", "b"), ("a", "b")))

    def test_kinds_of_values(self):
        for found in [violations(EXAMPLE), conflicts(EXAMPLE), before(EXAMPLE, "c"), after(EXAMPLE, "b")]:
            self.assertIs(type(found), tuple)
            self.assertTrue(found)
        for found in violations(EXAMPLE) + conflicts(EXAMPLE):
            self.assertIs(type(found), tuple)

    def test_drawn_plans(self):
        for plan in drawn.draw_plans(33, 200):
            at = {"": 0, **plan.times()}
            nodes = drawn.nodes_of(plan)
            expected = [
                (first, second) for first, second in itertools.product(nodes, repeat=2)
                if at[second] - at[first] < drawn.plain_distance(plan, first, second)
            ]
            self.assertEqual(conflicts(plan), tuple(sorted(expected)))

    def test_drawn_plans_with_more_tasks(self):
        plans = drawn.draw_plans(34, 30, most_tasks=20, most_time=60, most_lags=40)
        for plan in plans + [drawn.row_of_thirty()]:
            self.assertEqual(conflicts(plan), tuple(drawn.plain_conflicts(plan)))

    def test_before_and_after_agree_with_conflicts(self):
        plans = drawn.draw_plans(35, 100) + drawn.draw_plans(36, 5, 9, 30, 30)
        for plan in plans:
            pairs = conflicts(plan)
            for node in drawn.nodes_of(plan):
                self.assertEqual(before(plan, node), tuple(sorted(one for one, other in pairs if other == node)))
                self.assertEqual(after(plan, node), tuple(sorted(other for one, other in pairs if one == node)))

    def test_there_is_a_conflict_exactly_if_an_own_lag_does_not_hold(self):
        plans = drawn.draw_plans(37, 300)
        found = [bool(conflicts(plan)) for plan in plans]
        self.assertEqual(found, [bool(violations(plan)) for plan in plans])
        self.assertEqual({True, False}, set(found))

    def test_before_is_a_strict_partial_order(self):
        for plan in drawn.draw_plans(38, 200) + [drawn.row_of_thirty()]:
            pairs = set(conflicts(plan))
            for first, second in pairs:
                self.assertNotEqual(first, second)
                self.assertNotIn((second, first), pairs)
                for third in drawn.nodes_of(plan):
                    if (second, third) in pairs:
                        self.assertIn((first, third), pairs)

    def test_a_second_call_returns_an_equal_result(self):
        for plan in drawn.draw_plans(39, 40):
            seen = drawn.state_of(plan)
            self.assertEqual([violations(plan), conflicts(plan)], [violations(plan), conflicts(plan)])
            for node in drawn.nodes_of(plan):
                self.assertEqual([before(plan, node), after(plan, node)], [before(plan, node), after(plan, node)])
            self.assertEqual(drawn.state_of(plan), seen)


class ArgumentsTest(unittest.TestCase):
    def test_any_object(self):
        for thing in ANYTHING + ["b", "c", "d", "aa", "A", "a ", " "]:
            for function in [before, after]:
                with self.subTest(thing=repr(thing)[:40]):
                    if isinstance(thing, str) and thing in ("", "a", "b", "c"):
                        self.assertIs(type(function(EXAMPLE, thing)), tuple)
                        continue
                    with self.assertRaises(UnknownName):
                        function(EXAMPLE, thing)

    def test_a_plan_without_tasks_knows_the_origin_only(self):
        for thing in ANYTHING:
            for function in [before, after]:
                if thing == "":
                    self.assertEqual(function(Plan(9, {}), thing), ())
                    continue
                with self.assertRaises(UnknownName):
                    function(Plan(9, {}), thing)

    def test_by_name(self):
        self.assertEqual(violations(plan=EXAMPLE), violations(EXAMPLE))
        self.assertEqual(conflicts(plan=EXAMPLE), conflicts(EXAMPLE))
        self.assertEqual(before(node="c", plan=EXAMPLE), ("b",))
        self.assertEqual(after(node="b", plan=EXAMPLE), ("c",))


if __name__ == "__main__":
    unittest.main()
