"""Tests of the guarantees [10] about before, conflicts, kept tasks, repairs, and added or removed lags."""

import itertools
import random
import unittest

import drawn
from retime.conflicts import after, before, conflicts
from retime.errors import InconsistentLags
from retime.keeping import can_keep, earliest, latest
from retime.plans import Plan
from retime.repairs import highest, lowest, obstacle, repair

MILLION = 1000000


def small_plans(seed, many=60):
    """Return drawn plans whose repairs can be found by all times."""
    dice = random.Random(seed)
    return drawn.draw_plans(seed + 1, many) + [drawn.draw_crowd(dice, 4, 6, 4) for _ in range(many)]


def eight_tasks(seed, many=50):
    """Return drawn plans of eight tasks with prices for all of them."""
    dice = random.Random(seed)
    plans = [drawn.draw_crowd(dice, 8, 20, dice.randint(4, 9), dice.randint(0, 2)) for _ in range(many)]
    found = []
    for plan in plans:
        amounts = dice.choice([[1], [3], [1, 2]])
        found.append((plan, {name: dice.choice(amounts) for name in plan.times()}))
    return found


def draw_lag(dice, plan):
    """Return a lag that a plan with tasks can take, or None if the one that is drawn is inconsistent."""
    first, second = dice.sample(drawn.nodes_of(plan), 2)
    lag = (first, second, dice.randint(-3, 3))
    try:
        Plan(plan.horizon, plan.times(), plan.lags() + (lag,))
    except InconsistentLags:
        return None
    return lag


class RepairsTest(unittest.TestCase):
    def test_kept_tasks_are_a_repair_if_and_only_if_they_are_free_of_conflicts(self):
        dice = random.Random(71)
        for plan in small_plans(72):
            prices = drawn.draw_prices(dice, plan)
            repairs = drawn.plain_repairs(plan, prices)
            for kept in drawn.subsets(plan.times()):
                if not all(name in kept or name in prices for name in plan.times()):
                    continue
                self.assertIs(tuple(sorted(kept)) in repairs, can_keep(plan, kept))
                self.assertIs(can_keep(plan, kept), not any({*pair} <= {"", *kept} for pair in conflicts(plan)))

    def test_there_is_a_repair_if_and_only_if_firm_nodes_are_free_of_conflicts(self):
        dice = random.Random(73)
        found = set()
        for plan in small_plans(74):
            prices = drawn.draw_prices(dice, plan)
            firm = [name for name in plan.times() if name not in prices]
            is_there = bool(drawn.plain_repairs(plan, prices))
            found.add(is_there)
            self.assertIs(is_there, obstacle(plan, prices) is None)
            self.assertIs(is_there, can_keep(plan, firm))
        self.assertEqual(found, {True, False})

    def test_the_meet_and_the_join_of_cheapest_repairs(self):
        several = 0
        for plan, prices in eight_tasks(75):
            pairs = set(conflicts(plan))
            cheapest = drawn.cheapest_of(drawn.free_repairs(plan, prices))
            several += len(cheapest) > 2
            for first, second in itertools.product(cheapest, repeat=2):
                self.assertIn(drawn.plain_meet(pairs, first, second), cheapest)
                self.assertIn(drawn.plain_join(pairs, first, second), cheapest)
            for kept in cheapest:
                self.assertEqual(drawn.plain_meet(pairs, kept, lowest(plan, prices)[1]), lowest(plan, prices)[1])
                self.assertEqual(drawn.plain_join(pairs, kept, highest(plan, prices)[1]), highest(plan, prices)[1])
        self.assertGreater(several, 10)

    def test_a_task_that_is_not_kept_conflicts_on_one_side_only(self):
        sides = set()
        for plan, prices in eight_tasks(77):
            for kept in drawn.cheapest_of(drawn.free_repairs(plan, prices)):
                nodes = {"", *kept}
                first, last = earliest(plan, kept), latest(plan, kept)
                for name in set(plan.times()) - nodes:
                    is_later = not nodes.isdisjoint(before(plan, name))
                    is_earlier = not nodes.isdisjoint(after(plan, name))
                    self.assertIs(is_later, not is_earlier)
                    sides.add(is_later)
                    if is_later:
                        self.assertGreater(first[name], plan.time(name))
                    else:
                        self.assertLess(last[name], plan.time(name))
        self.assertEqual(sides, {True, False})

    def test_a_task_that_a_cheapest_repair_does_not_keep_changes_its_time(self):
        for plan, prices in eight_tasks(79):
            found = repair(plan, prices)
            for name in plan.times():
                self.assertIs(found.time(name) == plan.time(name), name in lowest(plan, prices)[1])

    def test_the_mirrored_plan_can_keep_the_same_tasks(self):
        for plan in small_plans(81):
            high = plan.horizon
            lags = []
            for first, second, gap in plan.lags():
                if first == "":
                    lags.append((second, "", gap - high))
                elif second == "":
                    lags.append(("", first, gap + high))
                else:
                    lags.append((second, first, gap))
            times = {name: high - time for name, time in plan.times().items()}
            other = Plan(high, times, [lag for lag in lags if -MILLION <= lag[2] <= MILLION])
            for kept in drawn.subsets(plan.times()):
                self.assertIs(can_keep(other, kept), can_keep(plan, kept))
            tasks = [(second, first) for first, second in conflicts(plan)]
            self.assertEqual(conflicts(other), tuple(sorted(tasks)))


class LagsTest(unittest.TestCase):
    def test_if_a_lag_is_removed_the_same_tasks_can_be_kept(self):
        dice = random.Random(83)
        for plan in small_plans(84, 40):
            prices = drawn.draw_prices(dice, plan)
            for lag in plan.lags():
                other = Plan(plan.horizon, plan.times(), [some for some in plan.lags() if some != lag])
                self.assertLessEqual(set(conflicts(other)), set(conflicts(plan)))
                for kept in drawn.subsets(plan.times()):
                    if can_keep(plan, kept):
                        self.assertIs(can_keep(other, kept), True)
                if obstacle(plan, prices) is None:
                    self.assertLessEqual(lowest(other, prices)[0], lowest(plan, prices)[0])

    def test_lags_added_in_two_steps_cost_at_least_as_much_as_at_once(self):
        dice = random.Random(85)
        seen = set()
        for plan in small_plans(86, 100):
            prices = {name: dice.randint(1, 3) for name in plan.times()}
            added = [draw_lag(dice, plan) for _ in range(2)] if len(plan) else [None]
            if None in added:
                continue
            try:
                both = Plan(plan.horizon, plan.times(), [*plan.lags(), *added])
            except InconsistentLags:
                continue
            one = Plan(plan.horizon, plan.times(), plan.lags() + (added[0],))
            at_once = lowest(both, prices)[0]
            for function in [lowest, highest]:
                price, kept = function(one, prices)
                for times in [earliest(one, kept), latest(one, kept)]:
                    two = Plan(plan.horizon, times, both.lags())
                    in_steps = price + lowest(two, prices)[0]
                    self.assertLessEqual(at_once, in_steps)
                    seen.add(at_once < in_steps)
        self.assertEqual(seen, {True, False})


if __name__ == "__main__":
    unittest.main()
