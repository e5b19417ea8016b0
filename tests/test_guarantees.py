"""Tests of the guarantees [10] about conflicts, repairs, certificates, steps, lags and mirrored plans."""

import functools
import itertools
import random
import unittest

import drawn
from retime.certificates import certificate, check_certificate
from retime.conflicts import after, before, conflicts
from retime.errors import InconsistentLags, NoRepair, RetimeError
from retime.history import History
from retime.keeping import can_keep, earliest, latest
from retime.lattice import always_kept, join, meet, sometimes_kept
from retime.plans import Plan
from retime.registry import Registry
from retime.repairs import highest, lowest, obstacle, repair
from retime.slack import displaced, fixed, slack
from retime.steps import steps

MILLION = 1000000


def small_plans(seed, many=60):
    """Return drawn plans whose repairs can be found by all times."""
    dice = random.Random(seed)
    return drawn.draw_plans(seed + 1, many) + [drawn.draw_crowd(dice, 4, 6, 4) for _ in range(many)]


def eight_tasks(seed, many=50):
    """Return drawn plans of eight tasks with prices for all of them."""
    dice = random.Random(seed)
    plans = [drawn.draw_crowd(dice, 8, 20, dice.randint(4, 9), dice.randint(0, 2)) for _ in range(many)]
    found = []
    for plan in plans:
        amounts = dice.choice([[1], [3], [1, 2]])
        found.append((plan, {name: dice.choice(amounts) for name in plan.times()}))
    return found


def draw_lag(dice, plan):
    """Return a lag that a plan with tasks can take, or None if the one that is drawn is inconsistent."""
    first, second = dice.sample(drawn.nodes_of(plan), 2)
    lag = (first, second, dice.randint(-3, 3))
    try:
        Plan(plan.horizon, plan.times(), plan.lags() + (lag,))
    except InconsistentLags:
        return None
    return lag


class RepairsTest(unittest.TestCase):
    def test_kept_tasks_are_a_repair_if_and_only_if_they_are_free_of_conflicts(self):
        dice = random.Random(71)
        for plan in small_plans(72):
            prices = drawn.draw_prices(dice, plan)
            repairs = drawn.plain_repairs(plan, prices)
            for kept in drawn.subsets(plan.times()):
                if not all(name in kept or name in prices for name in plan.times()):
                    continue
                self.assertIs(tuple(sorted(kept)) in repairs, can_keep(plan, kept))
                self.assertIs(can_keep(plan, kept), not any({*pair} <= {"", *kept} for pair in conflicts(plan)))

    def test_there_is_a_repair_if_and_only_if_firm_nodes_are_free_of_conflicts(self):
        dice = random.Random(73)
        found = set()
        for plan in small_plans(74):
            prices = drawn.draw_prices(dice, plan)
            firm = [name for name in plan.times() if name not in prices]
            is_there = bool(drawn.plain_repairs(plan, prices))
            found.add(is_there)
            self.assertIs(is_there, obstacle(plan, prices) is None)
            self.assertIs(is_there, can_keep(plan, firm))
        self.assertEqual(found, {True, False})

    def test_the_meet_and_the_join_of_cheapest_repairs(self):
        several = 0
        for plan, prices in eight_tasks(75):
            pairs = set(conflicts(plan))
            cheapest = drawn.cheapest_of(drawn.free_repairs(plan, prices))
            several += len(cheapest) > 2
            for first, second in itertools.product(cheapest, repeat=2):
                self.assertIn(drawn.plain_meet(pairs, first, second), cheapest)
                self.assertIn(drawn.plain_join(pairs, first, second), cheapest)
            for kept in cheapest:
                self.assertEqual(drawn.plain_meet(pairs, kept, lowest(plan, prices)[1]), lowest(plan, prices)[1])
                self.assertEqual(drawn.plain_join(pairs, kept, highest(plan, prices)[1]), highest(plan, prices)[1])
        self.assertGreater(several, 10)

    def test_a_task_that_is_not_kept_conflicts_on_one_side_only(self):
        sides = set()
        for plan, prices in eight_tasks(77):
            for kept in drawn.cheapest_of(drawn.free_repairs(plan, prices)):
                nodes = {"", *kept}
                first, last = earliest(plan, kept), latest(plan, kept)
                for name in set(plan.times()) - nodes:
                    is_later = not nodes.isdisjoint(before(plan, name))
                    is_earlier = not nodes.isdisjoint(after(plan, name))
                    self.assertIs(is_later, not is_earlier)
                    sides.add(is_later)
                    if is_later:
                        self.assertGreater(first[name], plan.time(name))
                    else:
                        self.assertLess(last[name], plan.time(name))
        self.assertEqual(sides, {True, False})

    def test_a_task_that_a_cheapest_repair_does_not_keep_changes_its_time(self):
        for plan, prices in eight_tasks(79):
            found = repair(plan, prices)
            for name in plan.times():
                self.assertIs(found.time(name) == plan.time(name), name in lowest(plan, prices)[1])


def greatest_sum(plan, prices):
    """Return the greatest sum that a certificate of a plan with a repair can have, by all lists of chains."""
    chains = drawn.all_chains(plan)

    @functools.cache
    def most(at, left):
        if at == len(chains):
            return 0
        left = dict(left)
        found = most(at + 1, tuple(left.items()))
        for amount in range(1, 1 + min(left[node] for node in chains[at] if node in left)):
            rest = {node: price - amount if node in chains[at] else price for node, price in left.items()}
            found = max(found, (len(chains[at]) - 1) * amount + most(at + 1, tuple(rest.items())))
        return found

    return most(0, tuple((name, prices[name]) for name in plan.times() if name in prices))


class CertificatesTest(unittest.TestCase):
    def test_the_least_price_is_the_greatest_sum_of_a_certificate(self):
        dice = random.Random(91)
        seen = set()
        for plan in small_plans(92):
            full = {name: dice.randint(1, 3) for name in plan.times()}
            for prices in [full, {name: full[name] for name in full if dice.randint(0, 4)}]:
                if obstacle(plan, prices) is not None:
                    self.assertTrue(drawn.is_supporting(plan, prices, certificate(plan, prices), None))
                    continue
                least = lowest(plan, prices)[0]
                self.assertEqual(greatest_sum(plan, prices), least)
                self.assertEqual(drawn.sum_of(certificate(plan, prices)), least)
                seen.add(least)
        self.assertLessEqual({0, 1, 2, 3, 4, 5}, seen)

    def test_no_certificate_supports_more_than_the_least_price(self):
        dice = random.Random(93)
        seen = 0
        for plan, prices in eight_tasks(94, 40):
            least = lowest(plan, prices)[0]
            chains = drawn.all_chains(plan)
            for _ in range(20 if chains else 0):
                thing = []
                for chain in dice.sample(chains, len(chains)):
                    if check_certificate(plan, prices, thing + [(chain, 1)], 0):
                        thing.append((chain, 1))
                self.assertIs(check_certificate(plan, prices, thing, least + 1), False)
                seen += check_certificate(plan, prices, thing, least)
        self.assertGreater(seen, 20)

    def test_if_a_lag_is_added_a_certificate_stays_a_certificate(self):
        dice = random.Random(95)
        dearer = 0
        for plan in small_plans(96, 100):
            prices = drawn.draw_prices(dice, plan)
            lag = draw_lag(dice, plan) if len(plan) else None
            if lag is None:
                continue
            other = Plan(plan.horizon, plan.times(), plan.lags() + (lag,))
            found = certificate(plan, prices)
            bar = None if obstacle(plan, prices) else lowest(plan, prices)[0]
            self.assertIs(check_certificate(plan, prices, found, bar), True)
            self.assertIs(check_certificate(other, prices, found, bar), True)
            self.assertTrue(set(conflicts(plan)) <= set(conflicts(other)))
            dearer += conflicts(plan) != conflicts(other)
        self.assertGreater(dearer, 10)


class StepsTest(unittest.TestCase):
    def assert_smaller_of_two(self, plan, prices):
        """Check the two numbers for each priced task; return on which sides the smaller ones are."""
        least = lowest(plan, prices)[0]
        sides = []
        for name in plan.times():
            if name not in prices:
                continue
            found = steps(plan, prices, name)
            at_any = prices[name] + min(price for _, _, price in found)
            at_old = [price for low, high, price in found if low <= plan.time(name) <= high]
            self.assertEqual(min([at_any, *at_old]), least)
            sides.append((at_any == least, at_old == [least]))
        return sides

    def test_the_least_price_is_the_smaller_one_of_two_numbers(self):
        dice = random.Random(97)
        seen = set()
        for plan in small_plans(98, 100):
            for prices in [drawn.draw_prices(dice, plan), {name: dice.randint(1, 3) for name in plan.times()}]:
                if obstacle(plan, prices) is None:
                    seen.update(self.assert_smaller_of_two(plan, prices))
        for plan, prices in eight_tasks(99):
            seen.update(self.assert_smaller_of_two(plan, prices))
        self.assertEqual(seen, {(True, False), (False, True), (True, True)})

    def test_the_price_at_a_time_is_that_of_an_update_that_holds_the_task_there(self):
        dice = random.Random(185)
        seen = {True: 0, False: 0}
        for plan in small_plans(186, 60) + [plan for plan, _ in eight_tasks(187, 20)]:
            prices = draw_many_prices(dice, plan)
            history = History(plan)
            for name in dice.sample(list(plan.times()), min(2, len(plan))):
                found = steps(plan, prices, name)
                for time in range(plan.horizon + 1):
                    expected = [price for low, high, price in found if low <= time <= high]
                    seen[bool(expected)] += 1
                    other = history.copy()
                    if not expected:
                        with self.assertRaises(NoRepair):
                            other.update([("time", name, time)], prices, [name])
                        continue
                    self.assertEqual([other.update([("time", name, time)], prices, (name,))], expected)
                    self.assertEqual([other.plan().time(name), other.spent()], [time, expected[0]])
        self.assertGreater(min(seen.values()), 100)

    def test_with_thirty_tasks(self):
        dice = random.Random(100)
        plan = drawn.draw_plan(dice, 30, 1000, 60)
        self.assert_smaller_of_two(plan, {name: dice.randint(1, 999) for name in list(plan.times())[::3] + list(plan.times())[1:]})


class MirrorTest(unittest.TestCase):
    def assert_mirrored(self, plan, prices):
        other = drawn.mirrored(plan)
        for kept in drawn.subsets(list(plan.times())[:5]):
            self.assertIs(can_keep(other, kept), can_keep(plan, kept))
        tasks = [(second, first) for first, second in conflicts(plan)]
        self.assertEqual(conflicts(other), tuple(sorted(tasks)))
        self.assertEqual([lowest(other, prices), highest(other, prices)], [highest(plan, prices), lowest(plan, prices)])
        for name in plan.times():
            times = slack(plan, name)
            turned = None if times is None else (plan.horizon - times[1], plan.horizon - times[0])
            self.assertEqual(slack(other, name), turned)
            prices_there = [(plan.horizon - high, plan.horizon - low, price) for low, high, price in steps(plan, prices, name)]
            self.assertEqual(steps(other, prices, name), prices_there[::-1])
        self.assertEqual([fixed(other), displaced(other)], [fixed(plan), displaced(plan)])

    def test_drawn_plans(self):
        dice = random.Random(81)
        for plan in small_plans(82):
            for prices in [drawn.draw_prices(dice, plan), {name: dice.randint(1, 2) for name in plan.times()}]:
                self.assert_mirrored(plan, prices)

    def test_eight_tasks(self):
        for plan, prices in eight_tasks(181, 20):
            self.assert_mirrored(plan, prices)
            other = drawn.mirrored(plan)
            for function in [always_kept, sometimes_kept]:
                self.assertEqual(function(other, prices), function(plan, prices))
            cheapest = drawn.cheapest_of(drawn.free_repairs(plan, prices))
            for first, second in itertools.combinations(cheapest[:6], 2):
                self.assertEqual(meet(other, prices, first, second), join(plan, prices, first, second))

    def test_gaps_that_are_out_of_range_when_turned_around(self):
        lags = [("", "a", -5), ("a", "", 0), ("b", "", -600000), ("", "b", -MILLION), ("c", "", -MILLION), ("a", "b", 7)]
        plan = Plan(MILLION, {"a": 0, "b": 600001, "c": MILLION}, lags)
        self.assertEqual(len(drawn.mirrored(plan).lags()), 4)
        for prices in [{}, {"b": 3}, {"a": 1, "b": 2, "c": 3}]:
            self.assert_mirrored(plan, prices)


class LagsTest(unittest.TestCase):
    def test_if_a_lag_is_removed_the_same_tasks_can_be_kept(self):
        dice = random.Random(83)
        for plan in small_plans(84, 40):
            prices = drawn.draw_prices(dice, plan)
            for lag in plan.lags():
                other = Plan(plan.horizon, plan.times(), [some for some in plan.lags() if some != lag])
                self.assertLessEqual(set(conflicts(other)), set(conflicts(plan)))
                for kept in drawn.subsets(plan.times()):
                    if can_keep(plan, kept):
                        self.assertIs(can_keep(other, kept), True)
                if obstacle(plan, prices) is None:
                    self.assertLessEqual(lowest(other, prices)[0], lowest(plan, prices)[0])

    def test_lags_added_in_two_steps_cost_at_least_as_much_as_at_once(self):
        dice = random.Random(85)
        seen = set()
        for plan in small_plans(86, 100):
            prices = {name: dice.randint(1, 3) for name in plan.times()}
            added = [draw_lag(dice, plan) for _ in range(2)] if len(plan) else [None]
            if None in added:
                continue
            try:
                both = Plan(plan.horizon, plan.times(), [*plan.lags(), *added])
            except InconsistentLags:
                continue
            one = Plan(plan.horizon, plan.times(), plan.lags() + (added[0],))
            at_once = lowest(both, prices)[0]
            for function in [lowest, highest]:
                price, kept = function(one, prices)
                for times in [earliest(one, kept), latest(one, kept)]:
                    two = Plan(plan.horizon, times, both.lags())
                    in_steps = price + lowest(two, prices)[0]
                    self.assertLessEqual(at_once, in_steps)
                    seen.add(at_once < in_steps)
        self.assertEqual(seen, {True, False})

    def test_the_same_in_a_history_in_either_order(self):
        dice = random.Random(87)
        seen = {True: 0, False: 0}
        for plan in small_plans(88, 150) + [plan for plan, _ in eight_tasks(89, 60)]:
            prices = draw_many_prices(dice, plan)
            history = History(plan)
            try:
                history.update([], prices)
            except NoRepair:
                continue
            lags = draw_new_lags(dice, history.plan())
            for at in range(len(lags) + 1):
                for first, second in [(lags[:at], lags[at:]), (lags[at:], lags[:at])]:
                    in_steps = price_of_updates(history, prices, [first, second])
                    at_once = price_of_updates(history, prices, [first + second])
                    if at_once is None:
                        self.assertIsNone(in_steps)
                    elif in_steps is not None:
                        self.assertLessEqual(at_once, in_steps)
                        seen[at_once < in_steps] += 1
        self.assertGreater(min(seen.values()), 10)


def draw_many_prices(dice, plan):
    """Return prices for most tasks of a plan."""
    return {name: dice.randint(1, 3) for name in plan.times() if dice.randint(0, 9)}


def draw_new_lags(dice, plan):
    """Return edits that add a few lags that are consistent together."""
    found = []
    for _ in range(dice.randint(2, 4) if len(plan) else 0):
        lag = draw_lag(dice, plan)
        if lag is not None and lag not in plan.lags():
            plan = Plan(plan.horizon, plan.times(), plan.lags() + (lag,))
            found.append(("lag", *lag))
    return found


def price_of_updates(history, prices, updates):
    """Return the sum of the prices of updates of a copy of a history, or None if one of them has no repair."""
    history = history.copy()
    try:
        return sum(history.update(edits, prices) for edits in updates)
    except NoRepair:
        return None


class FailuresTest(unittest.TestCase):
    def test_a_call_that_raises_an_error_changes_nothing_except_a_log(self):
        dice = random.Random(182)
        failed = 0
        for plan in small_plans(183, 40):
            history, registry = History(plan), Registry()
            registry.create("main", plan.horizon)
            registry.update("main", [("task", *pair) for pair in plan.times().items()], [])
            for _ in range(6):
                edits = [drawn.draw_edit(dice, history.plan()) for _ in range(3)]
                prices = draw_many_prices(dice, plan)
                seen = [history.plan(), len(history), history.spent()]
                there = [registry.plan("main"), registry.prices("main"), registry.spent("main"), registry.names()]
                log = registry.log()
                try:
                    history.update(edits, prices)
                except RetimeError:
                    self.assertEqual([history.plan(), len(history), history.spent()], seen)
                    failed += 1
                try:
                    registry.update("main", edits, [])
                except RetimeError:
                    self.assertEqual(
                        [registry.plan("main"), registry.prices("main"), registry.spent("main"), registry.names()], there
                    )
                    self.assertEqual(registry.log(), log + ["update", "failed"])
        self.assertGreater(failed, 50)


if __name__ == "__main__":
    unittest.main()
