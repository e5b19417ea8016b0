"""Tests of retime.chains: distances and longest chains [5, 15]."""

import itertools
import random
import unittest

import drawn
from anything import ANYTHING
from retime.chains import chain, distance
from retime.errors import UnknownName
from retime.plans import Plan

EXAMPLE = Plan(20, {'a': 0, 'b': 3, 'c': 5}, [('a', 'b', 2), ('b', 'c', 3)])


class ChainsCase(unittest.TestCase):
    def assert_longest(self, plan, first, second, most):
        """Check that the distance is as given, and that the chain is one with this total."""
        found = distance(plan, first, second)
        self.assertIs(type(found), int)
        self.assertEqual(found, most)
        nodes = chain(plan, first, second)
        self.assertIs(type(nodes), tuple)
        self.assertEqual([nodes[0], nodes[-1]], [first, second])
        self.assertEqual(len(set(nodes)), len(nodes))
        self.assertLessEqual(set(nodes), set(drawn.nodes_of(plan)))
        self.assertEqual(drawn.total_of(drawn.gaps_of(plan), nodes), most)
        return nodes

    def assert_all_longest(self, plan):
        table = drawn.table_of(plan)
        gaps = drawn.gaps_of(plan)
        for first, second in itertools.product(drawn.nodes_of(plan), repeat=2):
            nodes = self.assert_longest(plan, first, second, table[first, second])
            for start, end in itertools.combinations(range(len(nodes)), 2):
                part = nodes[start:end + 1]
                self.assertEqual(drawn.total_of(gaps, part), table[part[0], part[-1]])


class DistanceTest(ChainsCase):
    def test_the_example(self):
        found = [distance(EXAMPLE, 'a', 'c'), distance(EXAMPLE, '', 'c'), distance(EXAMPLE, 'c', 'a')]
        self.assertEqual(found, [5, 5, -20])
        self.assertEqual(chain(EXAMPLE, 'a', 'c'), ('a', 'b', 'c'))
        self.assert_all_longest(EXAMPLE)

    def test_equal_nodes(self):
        for node in ["", "a", "b", "c"]:
            self.assertEqual(distance(EXAMPLE, node, node), 0)
            self.assertEqual(chain(EXAMPLE, node, node), (node,))

    def test_a_plan_without_tasks(self):
        for horizon in [0, 7]:
            self.assertEqual(distance(Plan(horizon, {}), "", ""), 0)
            self.assertEqual(chain(Plan(horizon, {}), "", ""), ("",))

    def test_implicit_lags(self):
        plan = Plan(9, {"a": 4, "b": 5})
        self.assert_longest(plan, "", "a", 0)
        self.assert_longest(plan, "a", "", -9)
        self.assertEqual(self.assert_longest(plan, "a", "b", -9), ("a", "", "b"))
        self.assertEqual(self.assert_longest(Plan(0, {"a": 0, "b": 0}), "b", "a", 0), ("b", "", "a"))

    def test_lags_weaker_than_the_implicit_ones(self):
        plan = Plan(9, {"a": 4}, [("", "a", -3), ("a", "", -12)])
        self.assert_longest(plan, "", "a", 0)
        self.assert_longest(plan, "a", "", -9)

    def test_lags_of_the_origin(self):
        plan = Plan(9, {"a": 4, "b": 5}, [("", "a", 2), ("b", "", -6)])
        self.assert_longest(plan, "", "a", 2)
        self.assert_longest(plan, "b", "", -6)
        self.assertEqual(self.assert_longest(plan, "b", "a", -4), ("b", "", "a"))
        self.assertEqual(self.assert_longest(plan, "a", "b", -9), ("a", "", "b"))

    def test_several_lags_between_two_nodes(self):
        for gaps in itertools.permutations([3, -5, 1]):
            plan = Plan(9, {"a": 0, "b": 0}, [("a", "b", gap) for gap in gaps])
            self.assertEqual(self.assert_longest(plan, "a", "b", 3), ("a", "b"))
            self.assert_longest(plan, "b", "a", -9)

    def test_negative_gaps(self):
        plan = Plan(90, {"a": 0, "b": 0, "c": 0}, [("a", "b", -2), ("b", "c", -3), ("a", "c", -6)])
        self.assertEqual(self.assert_longest(plan, "a", "c", -5), ("a", "b", "c"))
        self.assert_longest(plan, "c", "b", -90)

    def test_the_longer_way_counts(self):
        times = {name: 0 for name in "abcd"}
        lags = [("a", "d", 7), ("a", "b", 3), ("b", "c", 3), ("c", "d", 2)]
        self.assertEqual(self.assert_longest(Plan(20, times, lags), "a", "d", 8), ("a", "b", "c", "d"))
        lags[0] = ("a", "d", 9)
        self.assertEqual(self.assert_longest(Plan(20, times, lags), "a", "d", 9), ("a", "d"))

    def test_cycles_with_the_total_zero(self):
        times = {name: 0 for name in "abcd"}
        lags = [("a", "b", 2), ("b", "a", -2), ("b", "c", 0), ("c", "b", 0), ("c", "d", -1), ("d", "a", -1)]
        self.assert_all_longest(Plan(9, times, lags))
        lags += [("a", "", -3), ("", "a", 3)]
        self.assert_all_longest(Plan(9, times, lags))
        self.assert_all_longest(Plan(0, times))

    def test_great_gaps(self):
        plan = Plan(10 ** 6, {"a": 0, "b": 0}, [("a", "b", 10 ** 6), ("b", "a", -10 ** 6)])
        self.assert_longest(plan, "a", "b", 10 ** 6)
        self.assert_longest(plan, "b", "a", -10 ** 6)
        self.assert_longest(plan, "b", "", -10 ** 6)

    def test_thirty_tasks_in_a_row(self):
        plan = drawn.row_of_thirty()
        self.assertEqual([len(plan), len(plan.lags())], [30, 99])
        self.assert_all_longest(plan)
        names = drawn.long_names(30)
        self.assertEqual(chain(plan, names[0], names[29]), tuple(names))
        self.assertEqual(distance(plan, names[0], names[29]), sum(1 + at % 3 for at in range(29)))

    def test_thirty_tasks_against_the_order_of_names(self):
        names = list(reversed(drawn.long_names(30)))
        plan = Plan(99, {name: 0 for name in names}, [(*pair, 1) for pair in itertools.pairwise(names)])
        self.assert_longest(plan, names[0], names[29], 29)
        self.assertEqual(chain(plan, names[0], names[29]), tuple(names))

    def test_drawn_plans_by_all_chains(self):
        for plan in drawn.draw_plans(15, 150):
            for first, second in itertools.product(drawn.nodes_of(plan), repeat=2):
                self.assert_longest(plan, first, second, drawn.plain_distance(plan, first, second))
            self.assert_all_longest(plan)

    def test_drawn_plans_with_more_tasks(self):
        for plan in drawn.draw_plans(16, 20, most_tasks=12, most_time=40, most_lags=40):
            self.assert_all_longest(plan)

    def test_times_do_not_matter(self):
        dice = random.Random(17)
        for plan in drawn.draw_plans(18, 60):
            times = {name: dice.randint(0, plan.horizon) for name in plan.times()}
            other = Plan(plan.horizon, times, plan.lags())
            for first, second in itertools.product(drawn.nodes_of(plan), repeat=2):
                self.assertEqual(distance(other, first, second), distance(plan, first, second))

    def test_a_further_lag_within_the_distance_changes_none(self):
        dice = random.Random(19)
        for plan in drawn.draw_plans(20, 60):
            if len(plan) == 0:
                continue
            first, second = dice.sample(drawn.nodes_of(plan), 2)
            gap = distance(plan, first, second) - dice.choice([0, 0, 1, 5])
            other = Plan(plan.horizon, plan.times(), plan.lags() + ((first, second, gap),))
            self.assertEqual(drawn.table_of(other), drawn.table_of(plan))
            self.assert_all_longest(other)
            for pair in itertools.product(drawn.nodes_of(plan), repeat=2):
                self.assertEqual(distance(other, *pair), distance(plan, *pair))


class ArgumentsTest(ChainsCase):
    def test_any_objects(self):
        things = ANYTHING + ["b", "c", "d", "aa", "A", "a ", " "]
        for place, thing in enumerate(things):
            known = isinstance(thing, str) and thing in ("", "a", "b", "c")
            other = things[place // 2]
            known_other = isinstance(other, str) and other in ("", "a", "b", "c")
            for first, second, good in [
                (thing, "a", known), ("a", thing, known), ("", thing, known), (thing, "", known),
                (thing, thing, known), (thing, other, known and known_other), (other, thing, known and known_other),
            ]:
                with self.subTest(first=repr(first)[:30], second=repr(second)[:30]):
                    if good:
                        distance(EXAMPLE, first, second)
                        chain(EXAMPLE, first, second)
                        continue
                    with self.assertRaises(UnknownName):
                        distance(EXAMPLE, first, second)
                    with self.assertRaises(UnknownName):
                        chain(EXAMPLE, first, second)

    def test_a_plan_without_tasks_knows_the_origin_only(self):
        plan = Plan(9, {})
        for thing in ANYTHING:
            for function in [distance, chain]:
                if thing == "":
                    function(plan, thing, thing)
                    continue
                for first, second in [(thing, ""), ("", thing), (thing, thing)]:
                    with self.assertRaises(UnknownName):
                        function(plan, first, second)

    def test_by_name(self):
        self.assertEqual(distance(second="c", first="a", plan=EXAMPLE), 5)
        self.assertEqual(chain(second="c", first="a", plan=EXAMPLE), ("a", "b", "c"))

    def test_the_plan_stays_as_it_is(self):
        for plan in drawn.draw_plans(21, 20):
            before = drawn.state_of(plan)
            for first, second in itertools.product(drawn.nodes_of(plan), repeat=2):
                self.assertEqual(chain(plan, first, second), chain(plan, first, second))
                self.assertEqual(distance(plan, first, second), distance(plan, first, second))
            self.assertEqual(drawn.state_of(plan), before)

    def test_the_arguments_stay_as_they_are(self):
        for function in [distance, chain]:
            things = [["a"], {"a": [1]}]
            with self.assertRaises(UnknownName):
                function(EXAMPLE, *things)
            self.assertEqual(things, [["a"], {"a": [1]}])


if __name__ == "__main__":
    unittest.main()
