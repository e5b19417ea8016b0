"""Tests of retime.repairs: the cheapest repairs [7] to [9], [19], [20]."""

import itertools
import random
import unittest

import drawn
from anything import ANYTHING
from retime.errors import InvalidPrices, NoRepair
from retime.keeping import can_keep, earliest
from retime.plans import Plan, is_name
from retime.repairs import highest, lowest, obstacle, repair

EXAMPLE = Plan(20, {'a': 0, 'b': 3, 'c': 5}, [('a', 'b', 2), ('b', 'c', 3)])
FUNCTIONS = [obstacle, lowest, highest, repair]


def are_prices(thing):
    """Tell whether a thing is a dict from names to prices."""
    if not isinstance(thing, dict):
        return False
    return all(is_name(name) and type(price) is int and 1 <= price <= 999 for name, price in thing.items())


class RepairsCase(unittest.TestCase):
    def assert_cheapest(self, plan, prices, price, low, high):
        """Check all answers by the least price and the kept tasks of both ends."""
        self.assertIsNone(obstacle(plan, prices))
        for function, kept in [(lowest, low), (highest, high)]:
            found = function(plan, prices)
            self.assertEqual(found, (price, tuple(kept)))
            self.assertEqual([type(found), type(found[0]), type(found[1])], [tuple, int, tuple])
        self.assert_repaired(plan, prices, low)

    def assert_repaired(self, plan, prices, kept):
        found = repair(plan, prices)
        self.assertIs(type(found), Plan)
        self.assertEqual([found.horizon, found.lags()], [plan.horizon, plan.lags()])
        self.assertEqual(found.times(), earliest(plan, list(kept)))
        at = {"": 0, **found.times()}
        self.assertTrue(all(at[second] - at[first] >= gap for first, second, gap in plan.lags()))
        self.assertTrue(all(at[name] == plan.time(name) for name in kept))

    def assert_none(self, plan, prices, pair):
        """Check that there is no repair because of the pair."""
        self.assertEqual(obstacle(plan, prices), pair)
        self.assertIs(type(obstacle(plan, prices)), tuple)
        self.assertIsNone(lowest(plan, prices))
        self.assertIsNone(highest(plan, prices))
        with self.assertRaises(NoRepair) as caught:
            repair(plan, prices)
        self.assertEqual(caught.exception.pair, pair)

    def assert_by_repairs(self, plan, prices, repairs):
        """Check all answers against the dict of the prices of all repairs."""
        pairs = drawn.plain_conflicts(plan)
        if not repairs:
            firm = [node for node in drawn.nodes_of(plan) if node not in prices]
            self.assert_none(plan, prices, min(pair for pair in pairs if {*pair} <= {*firm}))
            return
        cheapest = drawn.cheapest_of(repairs)
        low = [kept for kept in cheapest if all(drawn.is_below(pairs, kept, other) for other in cheapest)]
        high = [kept for kept in cheapest if all(drawn.is_below(pairs, other, kept) for other in cheapest)]
        self.assertEqual([len(low), len(high)], [1, 1])
        self.assert_cheapest(plan, prices, min(repairs.values()), low[0], high[0])


class ExamplesTest(RepairsCase):
    def test_the_example(self):
        self.assertEqual(lowest(EXAMPLE, {'b': 1, 'c': 5}), (1, ('a', 'c')))
        self.assertEqual(repair(EXAMPLE, {'b': 1, 'c': 5}).times(), {'a': 0, 'b': 2, 'c': 5})
        self.assertEqual(obstacle(EXAMPLE, {'a': 1}), ('b', 'c'))
        self.assert_cheapest(EXAMPLE, {'b': 1, 'c': 5}, 1, ['a', 'c'], ['a', 'c'])
        self.assert_none(EXAMPLE, {'a': 1}, ('b', 'c'))

    def test_no_prices(self):
        self.assert_none(EXAMPLE, {}, ("b", "c"))
        plan = Plan(20, {"a": 0, "b": 3}, [("a", "b", 2)])
        self.assert_cheapest(plan, {}, 0, "ab", "ab")
        self.assert_cheapest(Plan(9, {}), {}, 0, "", "")
        self.assert_cheapest(Plan(9, {}), {"a": 3}, 0, "", "")

    def test_one_of_two_is_firm(self):
        self.assert_cheapest(EXAMPLE, {"b": 999}, 999, "ac", "ac")
        self.assert_cheapest(EXAMPLE, {"c": 999, "a": 1}, 999, "ab", "ab")

    def test_equal_prices(self):
        for price in [1, 7, 999]:
            self.assert_cheapest(EXAMPLE, {"b": price, "c": price}, price, "ab", "ac")

    def test_prices_one_and_999(self):
        self.assert_cheapest(EXAMPLE, {"b": 1, "c": 999}, 1, "ac", "ac")
        self.assert_cheapest(EXAMPLE, {"b": 999, "c": 1}, 1, "ab", "ab")
        times = {"a": 5, "b": 5, "c": 5}
        plan = Plan(9, times, [("a", "b", 1), ("a", "c", 1)])
        self.assert_cheapest(plan, {"a": 999, "b": 998, "c": 1}, 999, "a", "bc")
        self.assert_cheapest(plan, {"a": 999, "b": 998, "c": 2}, 999, "bc", "bc")
        self.assert_cheapest(plan, {"a": 999, "b": 999, "c": 999}, 999, "bc", "bc")

    def test_prices_for_names_that_are_no_tasks(self):
        self.assert_cheapest(EXAMPLE, {"z": 1, "b": 5, "aa": 999, "c": 4}, 4, "ab", "ab")
        self.assert_none(EXAMPLE, {"z": 1}, ("b", "c"))

    def test_several_ends(self):
        plan = Plan(9, {'a': 2, 'b': 2, 'c': 5, 'd': 5}, [('a', 'b', 1), ('c', 'd', 1)])
        self.assert_cheapest(plan, {'a': 4, 'b': 4, 'c': 4, 'd': 4}, 8, "ac", "bd")
        self.assert_cheapest(plan, {'a': 4, 'b': 4, 'c': 4, 'd': 3}, 7, "ac", "bc")
        self.assert_cheapest(plan, {'a': 3, 'b': 4, 'c': 4}, 7, "bd", "bd")

    def test_a_chain_of_conflicts(self):
        times = {name: 5 for name in "abcde"}
        lags = [(*pair, 1) for pair in itertools.pairwise("abcde")]
        plan = Plan(10, times, lags)
        self.assert_cheapest(plan, {name: 2 for name in "abcde"}, 8, "a", "e")
        self.assert_cheapest(plan, {"a": 2, "b": 3, "c": 1, "d": 3, "e": 2}, 8, "b", "d")

    def test_the_origin_is_firm(self):
        plan = Plan(9, {"a": 2, "b": 7, "c": 4}, [("", "a", 3), ("b", "", -5)])
        self.assert_cheapest(plan, {"a": 2, "b": 5}, 7, "c", "c")
        self.assert_cheapest(plan, {"a": 2, "b": 5, "c": 1}, 7, "c", "c")
        self.assert_none(plan, {"b": 5}, ("", "a"))
        self.assert_none(plan, {"a": 5}, ("b", ""))
        self.assert_none(plan, {}, ("", "a"))

    def test_the_smallest_obstacle(self):
        plan = Plan(99, {name: 50 for name in "abcd"}, [("d", "a", 1), ("d", "b", 1), ("c", "b", 1)])
        self.assert_none(plan, {}, ("c", "b"))
        self.assert_none(plan, {"c": 1}, ("d", "a"))
        self.assert_none(plan, {"c": 1, "a": 1}, ("d", "b"))
        self.assert_cheapest(plan, {"d": 5, "b": 5}, 10, "ac", "ac")

    def test_a_plan_without_conflicts_is_repaired_to_an_equal_one(self):
        plans = [plan for plan in drawn.draw_plans(51, 200) if not drawn.plain_conflicts(plan)]
        self.assertGreater(len(plans), 20)
        dice = random.Random(52)
        for plan in plans:
            for prices in [{}, drawn.draw_prices(dice, plan), {name: 1 for name in plan.times()}]:
                self.assert_cheapest(plan, prices, 0, plan.times(), plan.times())
                self.assertEqual(repair(plan, prices), plan)
                self.assertIsNot(repair(plan, prices), plan)

    def test_the_distance_of_the_change_does_not_matter(self):
        plan = Plan(10 ** 6, {"a": 10 ** 6, "b": 0, "c": 0}, [("a", "b", 0), ("b", "c", 1)])
        self.assert_cheapest(plan, {"a": 3, "b": 4, "c": 2}, 5, "b", "b")
        plan = Plan(10 ** 6, {"a": 10 ** 6 - 1, "b": 1}, [("a", "b", 0)])
        self.assert_cheapest(plan, {"a": 3, "b": 2}, 2, "a", "a")
        self.assert_cheapest(plan, {"a": 3, "b": 3}, 3, "a", "b")


class DrawnTest(RepairsCase):
    def test_small_plans_against_all_times(self):
        dice = random.Random(53)
        several = 0
        plans = drawn.draw_plans(54, 100, most_tasks=4, most_time=5)
        plans += [drawn.draw_crowd(dice, 4, 6, 4) for _ in range(120)]
        for plan in plans:
            for prices in [drawn.draw_prices(dice, plan), {name: dice.randint(1, 2) for name in plan.times()}]:
                repairs = drawn.plain_repairs(plan, prices)
                several += len(drawn.cheapest_of(repairs)) > 1
                self.assert_by_repairs(plan, prices, repairs)
        self.assertGreater(several, 30)

    def test_eight_tasks_against_all_sets_of_kept_tasks(self):
        dice = random.Random(55)
        several = 0
        plans = [drawn.draw_plan(dice, 8, 30, 12) for _ in range(20)]
        plans += [drawn.draw_crowd(dice, 8, 30, 9, 1) for _ in range(40)]
        for plan in plans:
            amounts = dice.choice([[1], [999], [1, 2], [3, 4, 7]])
            prices = {name: dice.choice(amounts) for name in plan.times()}
            for some in [prices, drawn.draw_prices(dice, plan)]:
                repairs = drawn.free_repairs(plan, some)
                several += len(drawn.cheapest_of(repairs)) > 2
                self.assert_by_repairs(plan, some, repairs)
        self.assertGreater(several, 10)

    def test_up_to_thirty_tasks_with_some_of_them_priced(self):
        dice = random.Random(56)
        for tasks in [12, 20, 30, 30]:
            plan = drawn.draw_plan(dice, tasks, 1000, 15)
            cover = {node for pair in drawn.plain_conflicts(plan) for node in pair if node}
            priced = sorted(cover)[:9]
            self.assert_by_repairs(plan, dict.fromkeys(priced, 2), drawn.free_repairs(plan, dict.fromkeys(priced, 2)))
        plan = Plan(99, {name: 50 for name in drawn.long_names(30)}, [("naa", name, 1) for name in drawn.long_names(9)[1:]])
        for price in [7, 8, 9]:
            prices = {"naa": price, **dict.fromkeys(drawn.long_names(9)[1:], 1)}
            self.assert_by_repairs(plan, prices, drawn.free_repairs(plan, prices))

    def test_up_to_thirty_tasks_all_priced(self):
        dice = random.Random(57)
        plans = [drawn.draw_plan(dice, tasks, 1000, lags) for tasks in [15, 25, 30] for lags in [10, 40, 100]]
        for plan in plans + [drawn.row_of_thirty()]:
            for amounts in [[1], [1, 999], range(1, 1000)]:
                prices = {name: dice.choice(amounts) for name in plan.times()}
                least = drawn.least_price(plan, prices)
                pairs = drawn.plain_conflicts(plan)
                for function in [lowest, highest]:
                    price, kept = function(plan, prices)
                    self.assertEqual(price, least)
                    self.assertEqual(sum(prices[name] for name in prices if name not in kept), least)
                    self.assertEqual(kept, tuple(sorted(set(kept))))
                    self.assertTrue(can_keep(plan, kept))
                self.assertTrue(drawn.is_below(pairs, lowest(plan, prices)[1], highest(plan, prices)[1]))
                self.assert_repaired(plan, prices, lowest(plan, prices)[1])

    def test_thirty_tasks_in_pairs(self):
        names = drawn.long_names(30)
        lags = [(names[at], names[at + 1], 1) for at in range(0, 30, 2)]
        plan = Plan(9, dict.fromkeys(names, 5), lags)
        self.assert_cheapest(plan, dict.fromkeys(names, 999), 15 * 999, names[::2], names[1::2])

    def test_thirty_tasks_with_all_conflicts(self):
        names = drawn.long_names(30)
        plan = Plan(99, dict.fromkeys(names, 40), [(*pair, 1) for pair in itertools.pairwise(names)])
        self.assert_cheapest(plan, dict.fromkeys(names, 9), 29 * 9, names[:1], names[-1:])
        prices = {name: 1 + at for at, name in enumerate(names)}
        self.assert_cheapest(plan, prices, sum(range(1, 30)), names[-1:], names[-1:])
        self.assert_none(plan, dict.fromkeys(names[2:], 1), (names[0], names[1]))

    def test_none_exactly_if_there_is_an_obstacle(self):
        dice = random.Random(58)
        seen = set()
        for plan in drawn.draw_plans(59, 200):
            prices = drawn.draw_prices(dice, plan)
            pair = obstacle(plan, prices)
            seen.add(pair is None)
            self.assertIs(lowest(plan, prices) is None, pair is not None)
            self.assertIs(highest(plan, prices) is None, pair is not None)
            firm = {node for node in drawn.nodes_of(plan) if node not in prices}
            bad = [pair for pair in drawn.plain_conflicts(plan) if {*pair} <= firm]
            self.assertEqual(pair, min(bad, default=None))
        self.assertEqual(seen, {True, False})


class ArgumentsTest(RepairsCase):
    def assert_invalid(self, plan, prices):
        for function in FUNCTIONS:
            with self.subTest(prices=repr(prices)[:40]), self.assertRaises(InvalidPrices):
                function(plan, prices)

    def test_any_object(self):
        for thing in ANYTHING + [b"a", [("a", 1)], (("a", 1),), {"a"}]:
            if not are_prices(thing):
                self.assert_invalid(EXAMPLE, thing)

    def test_any_price(self):
        for thing in ANYTHING + [1000, 1001, 10 ** 6, -999, 1.0]:
            if type(thing) is int and 1 <= thing <= 999:
                continue
            for prices in [{"b": thing}, {"b": 1, "c": thing}, {"b": thing, "c": 5}, {"z": thing, "b": 1, "c": 1}]:
                self.assert_invalid(EXAMPLE, prices)

    def test_any_key(self):
        keys = ["", "A", "b ", "abcdefghi", "b1", "-", "b\n", 0, 1, 7, 10 ** 39, -1, True, None, (), ("b",), b"b"]
        for key in keys:
            for prices in [{key: 1}, {"b": 1, "c": 1, key: 1}, {key: 1, "b": 1, "c": 1}]:
                self.assert_invalid(EXAMPLE, prices)

    def test_the_least_and_the_greatest_price(self):
        for price in [1, 999]:
            self.assert_cheapest(EXAMPLE, {"b": price}, price, "ac", "ac")
        for price in [0, 1000]:
            self.assert_invalid(EXAMPLE, {"b": price})

    def test_invalid_prices_go_ahead_of_no_repair(self):
        for prices in [{"a": 0}, {"a": 1, "z": 1000}, {"": 1}, [], None, {"a": True}]:
            self.assert_invalid(EXAMPLE, prices)
        self.assert_none(EXAMPLE, {"a": 1}, ("b", "c"))

    def test_by_name(self):
        prices = {"b": 1, "c": 5}
        self.assertIsNone(obstacle(prices=prices, plan=EXAMPLE))
        self.assertEqual(lowest(prices=prices, plan=EXAMPLE), (1, ("a", "c")))
        self.assertEqual(highest(prices=prices, plan=EXAMPLE), (1, ("a", "c")))
        self.assertEqual(repair(prices=prices, plan=EXAMPLE).times(), {"a": 0, "b": 2, "c": 5})

    def test_arguments_stay_as_they_are(self):
        dice = random.Random(60)
        for plan in drawn.draw_plans(61, 60):
            seen = drawn.state_of(plan)
            prices = drawn.draw_prices(dice, plan)
            listed = list(prices.items())
            for function in FUNCTIONS:
                try:
                    found = function(plan, prices)
                    self.assertEqual(function(plan, prices), found)
                except NoRepair:
                    self.assertIs(function, repair)
            self.assertEqual(list(prices.items()), listed)
            self.assertEqual(drawn.state_of(plan), seen)

    def test_the_order_of_the_prices_does_not_matter(self):
        plan = drawn.row_of_thirty()
        dice = random.Random(62)
        names = list(plan.times())
        expected = [function(plan, dict.fromkeys(names, 3)) for function in FUNCTIONS]
        for _ in range(3):
            dice.shuffle(names)
            self.assertEqual([function(plan, dict.fromkeys(names, 3)) for function in FUNCTIONS], expected)


if __name__ == "__main__":
    unittest.main()
