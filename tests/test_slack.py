"""Tests of retime.slack: the times that a task may have if all others keep theirs [26]."""

import itertools
import random
import unittest

import drawn
from anything import ANYTHING
from retime.errors import UnknownName
from retime.plans import Plan
from retime.slack import displaced, fixed, slack

EXAMPLE = Plan(20, {'a': 0, 'b': 3, 'c': 5}, [('a', 'b', 2), ('b', 'c', 3)])
MILLION = 1000000


def is_free(plan, name, time, table=None):
    """Tell whether a task would not conflict with any other node at a time."""
    pairs = drawn.plain_conflicts(drawn.with_time(plan, name, time), table)
    return not any(name in pair for pair in pairs)


class SlackCase(unittest.TestCase):
    def assert_slack(self, plan, expected):
        """Check the slack of all tasks, and what follows from it."""
        found = {name: slack(plan, name) for name in plan.times()}
        self.assertEqual(found, expected)
        for times in found.values():
            if times is not None:
                self.assertEqual([type(times), type(times[0]), type(times[1])], [tuple, int, int])
        equal = [name for name, times in found.items() if times is not None and times[0] == times[1]]
        outside = [
            name for name, times in found.items() if times is None or not times[0] <= plan.time(name) <= times[1]
        ]
        self.assertEqual([fixed(plan), displaced(plan)], [tuple(equal), tuple(outside)])


class ExamplesTest(SlackCase):
    def test_the_example(self):
        self.assertEqual([slack(EXAMPLE, 'a'), slack(EXAMPLE, 'b'), slack(EXAMPLE, 'c')], [(0, 0), (2, 2), (6, 20)])
        self.assertEqual([fixed(EXAMPLE), displaced(EXAMPLE)], [('a', 'b'), ('b', 'c')])
        self.assert_slack(EXAMPLE, {"a": (0, 0), "b": (2, 2), "c": (6, 20)})

    def test_a_plan_without_tasks(self):
        for plan in [Plan(0, {}), Plan(9, {})]:
            self.assertEqual([fixed(plan), displaced(plan)], [(), ()])

    def test_no_lags(self):
        self.assert_slack(Plan(9, {"a": 0, "b": 9}), {"a": (0, 9), "b": (0, 9)})
        self.assert_slack(Plan(0, {"a": 0}), {"a": (0, 0)})
        self.assert_slack(Plan(MILLION, {"a": 5}), {"a": (0, MILLION)})

    def test_lags_of_the_origin(self):
        for time in range(10):
            plan = Plan(9, {"a": time, "b": 3}, [("", "a", 2), ("a", "", -7)])
            self.assert_slack(plan, {"a": (2, 7), "b": (max(0, time - 7), min(9, time + 7))})
            self.assertEqual([fixed(plan), displaced(plan)], [(), () if 2 <= time <= 7 else ("a",)])
        # The lags of the origin count for the distances between tasks, too.
        plan = Plan(9, {"a": 4, "b": 1, "c": 9}, [("", "a", 2), ("a", "", -7), ("", "b", 2), ("c", "", -8)])
        self.assert_slack(plan, {"a": (3, 6), "b": (3, 9), "c": (0, 7)})
        self.assertEqual([fixed(plan), displaced(plan)], [(), ("b", "c")])
        lags = [("", "a", 3), ("a", "", -3), ("", "b", 4), ("b", "", -4)]
        plan = Plan(9, {"a": 3, "b": 4}, lags)
        self.assert_slack(plan, {"a": (3, 3), "b": (4, 4)})
        self.assertEqual([fixed(plan), displaced(plan)], [("a", "b"), ()])
        plan = Plan(9, {"a": 4, "b": 4}, lags)
        self.assert_slack(plan, {"a": (3, 3), "b": None})
        self.assertEqual([fixed(plan), displaced(plan)], [("a",), ("a", "b")])

    def test_no_such_time(self):
        plan = Plan(20, {"a": 5, "b": 5, "c": 6}, [("a", "b", 1), ("b", "c", 1)])
        self.assert_slack(plan, {"a": (0, 4), "b": None, "c": (7, 20)})
        self.assertEqual([fixed(plan), displaced(plan)], [(), ("a", "b", "c")])
        plan = Plan(20, {"a": 5, "b": 5, "c": 7}, [("a", "b", 1), ("b", "c", 1)])
        self.assert_slack(plan, {"a": (0, 4), "b": (6, 6), "c": (7, 20)})
        plan = Plan(20, {"a": 19, "b": 5}, [("a", "b", 2)])
        self.assert_slack(plan, {"a": (0, 3), "b": None})

    def test_chains_count(self):
        plan = Plan(20, {"a": 5, "b": 0, "c": 9}, [("a", "b", 3), ("b", "c", 4)])
        self.assert_slack(plan, {"a": None, "b": None, "c": (12, 17)})

    def test_whether_the_others_conflict_does_not_matter(self):
        plan = Plan(20, {"a": 9, "b": 3, "c": 5, "d": 5}, [("a", "b", 2), ("c", "d", 3)])
        self.assert_slack(plan, {"a": (0, 1), "b": (11, 20), "c": (0, 2), "d": (8, 20)})
        plan = Plan(20, {"a": 9, "b": 3, "x": 5}, [("a", "b", 2)])
        self.assertEqual(slack(plan, "x"), (0, 20))

    def test_deadlines_and_fixed_distances(self):
        plan = Plan(50, {"a": 5, "b": 9, "c": 30}, [("a", "b", 4), ("b", "a", -4), ("c", "b", -25)])
        self.assert_slack(plan, {"a": (5, 5), "b": (9, 9), "c": (0, 34)})
        self.assertEqual([fixed(plan), displaced(plan)], [("a", "b"), ()])

    def test_ascending(self):
        plan = Plan(9, {"zz": 9, "b": 9, "ab": 9, "a": 9}, [("", name, 9) for name in ["zz", "b", "ab", "a"]])
        self.assertEqual([fixed(plan), displaced(plan)], [("a", "ab", "b", "zz"), ()])
        plan = Plan(9, {"zz": 8, "b": 8, "ab": 8, "a": 8}, [("", name, 9) for name in ["zz", "b", "ab", "a"]])
        self.assertEqual([fixed(plan), displaced(plan)], [(), ("a", "ab", "b", "zz")])

    def test_long_horizons(self):
        plan = Plan(MILLION, {"a": MILLION, "b": 0}, [("a", "b", -MILLION), ("b", "a", MILLION)])
        self.assert_slack(plan, {"a": (MILLION, MILLION), "b": (0, 0)})
        plan = Plan(MILLION, {"a": 400000, "b": 700000}, [("a", "b", 250000), ("b", "a", -600000)])
        self.assert_slack(plan, {"a": (100000, 450000), "b": (650000, MILLION)})


class DrawnTest(SlackCase):
    def test_every_time_of_small_horizons(self):
        seen = set()
        dice = random.Random(171)
        plans = drawn.draw_plans(172, 300) + [drawn.draw_crowd(dice, 5, 9, 6) for _ in range(40)]
        for plan in plans:
            table = drawn.table_of(plan)
            expected = {}
            for name in plan.times():
                free = [time for time in range(plan.horizon + 1) if is_free(plan, name, time, table)]
                self.assertEqual(free, list(range(free[0], free[-1] + 1)) if free else [])
                expected[name] = (free[0], free[-1]) if free else None
                seen.add(min(len(free), 2))
            self.assert_slack(plan, expected)
        self.assertEqual(seen, {0, 1, 2})

    def test_the_ends_in_larger_plans(self):
        dice = random.Random(173)
        plans = [drawn.draw_plan(dice, dice.randint(10, 30), 1000, 60) for _ in range(5)] + [drawn.row_of_thirty()]
        for plan in plans:
            table = drawn.table_of(plan)
            for name in dice.sample(list(plan.times()), 6):
                found = slack(plan, name)
                times = {dice.randint(0, plan.horizon) for _ in range(5)} | {0, plan.horizon, plan.time(name)}
                if found is not None:
                    times |= {found[0] - 1, found[0], found[1], found[1] + 1}
                for time in times:
                    if 0 <= time <= plan.horizon:
                        expected = found is not None and found[0] <= time <= found[1]
                        self.assertIs(is_free(plan, name, time, table), expected)

    def test_a_task_is_displaced_exactly_if_it_conflicts(self):
        for plan in drawn.draw_plans(174, 200):
            nodes = set(itertools.chain(*drawn.plain_conflicts(plan))) - {""}
            self.assertEqual(displaced(plan), tuple(sorted(nodes)))


class ArgumentsTest(SlackCase):
    def test_any_object(self):
        for thing in ANYTHING + ["", "d", "A", "a ", ["a"], {"a": 1}, b"a"]:
            if thing == "a":
                self.assertEqual(slack(EXAMPLE, thing), (0, 0))
                continue
            with self.subTest(thing=repr(thing)[:40]), self.assertRaises(UnknownName):
                slack(EXAMPLE, thing)

    def test_a_plan_without_tasks_knows_no_name(self):
        for thing in ANYTHING:
            with self.assertRaises(UnknownName):
                slack(Plan(9, {}), thing)

    def test_by_name(self):
        self.assertEqual(slack(name="c", plan=EXAMPLE), (6, 20))
        self.assertEqual([fixed(plan=EXAMPLE), displaced(plan=EXAMPLE)], [("a", "b"), ("b", "c")])

    def test_arguments_stay_as_they_are(self):
        for plan in drawn.draw_plans(175, 40):
            seen = drawn.state_of(plan)
            for name in plan.times():
                self.assertEqual(slack(plan, name), slack(plan, name))
            self.assertEqual([fixed(plan), displaced(plan)], [fixed(plan), displaced(plan)])
            self.assertEqual(drawn.state_of(plan), seen)


if __name__ == "__main__":
    unittest.main()
