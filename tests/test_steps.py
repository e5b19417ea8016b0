"""Tests of retime.steps: the least price as a function of the time of one task [25]."""

import random
import time
import unittest

import drawn
from anything import ANYTHING
from retime.errors import InvalidPrices, UnknownName
from retime.plans import Plan
from retime.steps import steps

EXAMPLE = Plan(20, {'a': 0, 'b': 3, 'c': 5}, [('a', 'b', 2), ('b', 'c', 3)])
MILLION = 1000000


def neighbourhood(dice, many, horizon):
    """Return a plan in which a task has as many neighbours, each with a lag to it and a lag from it, and its name."""
    names = dice.sample(drawn.NAMES, many + 1)
    centre, others = names[0], names[1:]
    base = {name: dice.randint(horizon // 4, horizon - horizon // 4) for name in names}
    lags = []
    for name in others:
        gap = base[name] - base[centre]
        lags.append((centre, name, gap - dice.randint(0, horizon // 5)))
        lags.append((name, centre, -gap - dice.randint(0, horizon // 5)))
    for _ in range(dice.randint(0, 4)):
        one, other = dice.sample(others, 2)
        lags.append((one, other, base[other] - base[one] - dice.randint(0, horizon // 9)))
    spread = horizon // 12
    times = {name: min(horizon, max(0, base[name] + dice.randint(-spread, spread))) for name in names}
    return Plan(horizon, times, lags), centre


class StepsCase(unittest.TestCase):
    def assert_form(self, plan, found):
        """Check that the stretches ascend, do not overlap and are as long as possible."""
        self.assertIs(type(found), list)
        for stretch in found:
            self.assertIs(type(stretch), tuple)
            self.assertEqual([type(number) for number in stretch], [int, int, int])
            low, high, price = stretch
            self.assertTrue(0 <= low <= high <= plan.horizon and price >= 0)
        for (_, end, one), (start, _, other) in zip(found, found[1:]):
            self.assertTrue(end + 1 < start or (end + 1 == start and one != other))

    def assert_prices_at(self, plan, prices, name, times):
        """Check the prices at some times against the definition."""
        found = steps(plan, prices, name)
        self.assert_form(plan, found)
        for at in times:
            stretches = [price for low, high, price in found if low <= at <= high]
            expected = drawn.price_at(plan, prices, name, at)
            self.assertEqual(stretches, [] if expected is None else [expected], at)
        return found

    def assert_at_the_ends(self, dice, plan, prices, name):
        """Check the prices at both ends of each stretch, next to them, and at drawn times."""
        found = steps(plan, prices, name)
        times = [0, plan.horizon] + [dice.randint(0, plan.horizon) for _ in range(10)]
        for low, high, _ in found:
            times += [low - 1, low, low + 1, high - 1, high, high + 1, dice.randint(low, high)]
        self.assert_prices_at(plan, prices, name, {at for at in times if 0 <= at <= plan.horizon})
        return found


class ExamplesTest(StepsCase):
    def test_the_example(self):
        self.assertEqual(steps(EXAMPLE, {'a': 9, 'b': 1, 'c': 5}, 'c'), [(5, 5, 1), (6, 20, 0)])

    def test_the_other_tasks_of_the_example(self):
        prices = {'a': 9, 'b': 1, 'c': 5}
        self.assertEqual(steps(EXAMPLE, prices, 'a'), [(0, 0, 1), (1, 1, 5), (2, 15, 6)])
        self.assertEqual(steps(EXAMPLE, prices, 'b'), [(2, 2, 0), (3, 17, 5)])

    def test_no_conflicts(self):
        plan = Plan(9, {"a": 2, "b": 5})
        for prices in [{}, {"a": 1}, {"a": 1, "b": 1}]:
            self.assertEqual(steps(plan, prices, "a"), [(0, 9, 0)])
        self.assertEqual(steps(Plan(0, {"a": 0}), {"a": 1}, "a"), [(0, 0, 0)])
        self.assertEqual(steps(Plan(MILLION, {"a": 0}), {}, "a"), [(0, MILLION, 0)])

    def test_firm_neighbours_leave_times_out(self):
        plan = Plan(9, {"a": 2, "b": 5, "c": 7}, [("a", "b", 1), ("b", "c", 1)])
        self.assertEqual(steps(plan, {}, "b"), [(3, 6, 0)])
        self.assertEqual(steps(plan, {"a": 4}, "b"), [(1, 2, 4), (3, 6, 0)])
        self.assertEqual(steps(plan, {"c": 4}, "b"), [(3, 6, 0), (7, 8, 4)])
        self.assertEqual(steps(plan, {"a": 1, "c": 4}, "b"), [(1, 2, 1), (3, 6, 0), (7, 8, 4)])

    def test_lags_of_the_origin(self):
        plan = Plan(9, {"a": 0, "b": 5}, [("", "a", 2), ("a", "", -7), ("a", "b", 1)])
        self.assertEqual(steps(plan, {"b": 3}, "a"), [(2, 4, 0), (5, 7, 3)])
        self.assertEqual(steps(plan, {}, "a"), [(2, 4, 0)])
        self.assertEqual(steps(plan, {"a": 3}, "b"), [(3, 9, 3)])
        self.assertEqual(steps(plan, {}, "b"), [])

    def test_a_gap_between_two_stretches(self):
        plan = Plan(20, {"a": 5, "b": 9, "c": 5}, [("a", "b", 2), ("b", "a", -6)])
        self.assertEqual(steps(plan, {"a": 1, "b": 1}, "a"), [(0, 2, 1), (3, 7, 0), (8, 18, 1)])

    def test_equal_prices_on_both_sides_of_a_border_are_one_stretch(self):
        plan = Plan(20, {"a": 5, "b": 5, "c": 8}, [("a", "b", 1), ("c", "b", 1)])
        # From 6 on the task b does not conflict with a, and from 9 on not with c.
        self.assertEqual(steps(plan, {"a": 2, "c": 3}, "b"), [(1, 5, 5), (6, 8, 3), (9, 20, 0)])
        plan = Plan(20, {"a": 6, "b": 5, "c": 6}, [("a", "c", 1), ("a", "b", -1), ("b", "c", -2)])
        self.assertEqual(steps(plan, {"a": 2, "c": 2}, "b"), [(0, 20, 2)])

    def test_no_repair_at_any_time(self):
        plan = Plan(20, {"a": 5, "b": 5, "c": 9}, [("a", "b", 2)])
        for prices in [{}, {"c": 4}, {"z": 1}]:
            self.assertEqual(steps(plan, prices, "c"), [])
        plan = Plan(9, {"a": 4, "b": 4, "c": 4}, [("a", "b", 1), ("b", "c", 1)])
        self.assertEqual(steps(plan, {"b": 1}, "b"), [])
        plan = Plan(9, {"a": 4, "b": 4, "c": 5}, [("a", "b", 1), ("b", "c", 1)])
        self.assertEqual(steps(plan, {"b": 1}, "b"), [])

    def test_the_price_of_the_task_itself_has_no_effect(self):
        dice = random.Random(151)
        for plan in [EXAMPLE] + drawn.draw_plans(152, 60) + [drawn.draw_crowd(dice, 6, 20, 7) for _ in range(20)]:
            for name in plan.times():
                prices = drawn.draw_prices(dice, plan)
                prices.pop(name, None)
                found = steps(plan, prices, name)
                for price in [1, 2, 500, 999]:
                    self.assertEqual(steps(plan, {**prices, name: price}, name), found)

    def test_the_time_of_the_task_itself_has_no_effect(self):
        dice = random.Random(153)
        for plan in drawn.draw_plans(154, 60):
            for name in plan.times():
                prices = drawn.draw_prices(dice, plan)
                found = steps(plan, prices, name)
                for at in range(plan.horizon + 1):
                    self.assertEqual(steps(drawn.with_time(plan, name, at), prices, name), found)


class DrawnTest(StepsCase):
    def test_every_time_of_small_horizons_against_all_times(self):
        dice = random.Random(155)
        seen = set()
        for plan in drawn.draw_plans(156, 120, most_tasks=3, most_time=6):
            for name in plan.times():
                for prices in [drawn.draw_prices(dice, plan), {other: dice.randint(1, 2) for other in plan.times()}]:
                    found = steps(plan, prices, name)
                    self.assert_form(plan, found)
                    seen.add(min(len(found), 3))
                    free = {other: prices[other] for other in prices if other != name}
                    for at in range(plan.horizon + 1):
                        repairs = drawn.plain_repairs(drawn.with_time(plan, name, at), free)
                        expected = [min(repairs.values())] if repairs else []
                        self.assertEqual([price for low, high, price in found if low <= at <= high], expected)
        self.assertEqual(seen, {0, 1, 2, 3})

    def test_every_time_of_a_horizon(self):
        dice = random.Random(157)
        plans = [drawn.draw_plan(dice, dice.randint(4, 8), 25, 14) for _ in range(30)]
        plans += [drawn.draw_crowd(dice, dice.randint(4, 8), 16, 9, 4) for _ in range(40)]
        for plan in plans:
            amounts = dice.choice([[1], [1, 2], [3, 4, 7]])
            for prices in [{name: dice.choice(amounts) for name in plan.times()}, drawn.draw_prices(dice, plan)]:
                name = dice.choice(list(plan.times()))
                self.assert_prices_at(plan, prices, name, range(plan.horizon + 1))

    def test_long_horizons(self):
        dice = random.Random(158)
        longest = 0
        for _ in range(40):
            plan, name = neighbourhood(dice, dice.randint(2, 7), MILLION)
            prices = {other: dice.choice([1, 2, 3, 999]) for other in plan.times()}
            for some in [prices, {other: prices[other] for other in list(prices)[1:]}]:
                longest = max(longest, len(self.assert_at_the_ends(dice, plan, some, name)))
        self.assertGreater(longest, 6)

    def test_more_than_fourteen_borders(self):
        dice = random.Random(159)
        longest = 0
        for at in range(24):
            plan, name = neighbourhood(dice, 8 + at % 2, dice.choice([60, 1000, MILLION]))
            others = [other for other in plan.times() if other != name]
            firm = dice.sample(others, dice.choice([0, 0, 1, 2]))
            prices = {other: dice.randint(1, 30) for other in plan.times() if other not in firm}
            longest = max(longest, len(self.assert_at_the_ends(dice, plan, prices, name)))
        self.assertGreater(longest, 14)

    def test_a_ladder_of_borders(self):
        names = drawn.long_names(11)
        times = {name: 100 + 10 * at for at, name in enumerate(names)}
        lags = [("x", name, 3) for name in names] + [(name, "x", -103) for name in names]
        plan = Plan(500, {**times, "x": 250}, lags)
        for prices in [dict.fromkeys(names, 2), {name: 1 + at for at, name in enumerate(names)}]:
            expected = []
            for at in range(501):
                price = sum(prices[name] for name in names if not 3 <= times[name] - at <= 103)
                if at > 497:
                    continue
                if expected and expected[-1][2] == price:
                    expected[-1] = (expected[-1][0], at, price)
                else:
                    expected.append((at, at, price))
            self.assertEqual(steps(plan, prices, "x"), expected)
            self.assertGreater(len(expected), 20)

    def test_thirty_tasks_and_one_hundred_lags_in_a_few_seconds(self):
        dice = random.Random(160)
        plans = [drawn.row_of_thirty(), drawn.draw_plan(dice, 30, 1000, 100), drawn.draw_crowd(dice, 30, 1000, 100, 1)]
        for plan in plans:
            prices = {name: dice.randint(1, 999) for name in plan.times()}
            name = dice.choice(list(plan.times()))
            start = time.monotonic()
            found = steps(plan, prices, name)
            self.assertLess(time.monotonic() - start, 5)
            self.assert_form(plan, found)
            self.assertTrue(found)
            for low, high, price in dice.sample(found, min(3, len(found))):
                for at in [low, high]:
                    self.assertEqual(drawn.price_at(plan, prices, name, at), price)


class ArgumentsTest(StepsCase):
    def test_any_object_as_the_prices(self):
        for thing in ANYTHING + [{"a": 1000}, {"z": 0}, {"a": True}, {"": 1}, {"c": 0}]:
            if thing == {}:
                continue
            for name in ["c", "z", "", None, []]:
                with self.subTest(thing=repr(thing)[:40]), self.assertRaises(InvalidPrices):
                    steps(EXAMPLE, thing, name)

    def test_any_object_as_the_name(self):
        for thing in ANYTHING + ["", "d", "z", "A", "a ", ["a"], {"a": 1}, b"a"]:
            for prices in [{"a": 9, "b": 1, "c": 5, "z": 3}, {}]:
                if thing == "a":
                    self.assertEqual(type(steps(EXAMPLE, prices, thing)), list)
                    continue
                with self.subTest(thing=repr(thing)[:40]), self.assertRaises(UnknownName):
                    steps(EXAMPLE, prices, thing)
                with self.assertRaises(UnknownName):
                    steps(Plan(9, {}), prices, thing)

    def test_by_name(self):
        found = steps(name="c", prices={"a": 9, "b": 1, "c": 5}, plan=EXAMPLE)
        self.assertEqual(found, [(5, 5, 1), (6, 20, 0)])

    def test_each_list_is_new(self):
        prices = {"a": 9, "b": 1, "c": 5}
        found = steps(EXAMPLE, prices, "c")
        self.assertIsNot(steps(EXAMPLE, prices, "c"), found)
        found[0] = (0, 1, 2)
        found.append((21, 22, 7))
        self.assertEqual(steps(EXAMPLE, prices, "c"), [(5, 5, 1), (6, 20, 0)])

    def test_arguments_stay_as_they_are(self):
        dice = random.Random(161)
        for plan in drawn.draw_plans(162, 40):
            prices = drawn.draw_prices(dice, plan)
            seen = (drawn.state_of(plan), list(prices.items()))
            for name in plan.times():
                self.assertEqual(steps(plan, prices, name), steps(plan, prices, name))
            self.assertEqual((drawn.state_of(plan), list(prices.items())), seen)


if __name__ == "__main__":
    unittest.main()
