"""Tests of retime.lattice: the cheapest repairs compared with each other [9], [24]."""

import itertools
import random
import unittest

import drawn
from anything import ANYTHING
from retime.errors import InvalidKept, InvalidPrices, NoRepair
from retime.lattice import always_kept, is_cheapest, join, meet, sometimes_kept
from retime.plans import Plan
from retime.repairs import highest, lowest

EXAMPLE = Plan(9, {'a': 2, 'b': 2, 'c': 5, 'd': 5}, [('a', 'b', 1), ('c', 'd', 1)])
EQUAL = {'a': 4, 'b': 4, 'c': 4, 'd': 4}
CHEAPEST = [("a", "c"), ("a", "d"), ("b", "c"), ("b", "d")]
# A plan in which the firm tasks a and b conflict.
BLOCKED = Plan(20, {"a": 5, "b": 5, "c": 3}, [("a", "b", 2), ("c", "b", 4)])


def plans_and_prices(seed, many):
    """Return drawn pairs of a plan of up to eight tasks and prices."""
    dice = random.Random(seed)
    plans = drawn.draw_plans(seed + 1, many)
    for _ in range(many):
        plans.append(drawn.draw_crowd(dice, dice.randint(3, 6), 12, dice.randint(2, 6), dice.randint(0, 2)))
    for _ in range(many // 2):
        plans.append(drawn.draw_crowd(dice, 8, 20, dice.randint(4, 9), dice.randint(0, 2)))
    found = []
    for plan in plans:
        amounts = dice.choice([[1], [999], [1, 2]])
        found.append((plan, {name: dice.choice(amounts) for name in plan.times()}))
        found.append((plan, drawn.draw_prices(dice, plan)))
    return found


class IsCheapestTest(unittest.TestCase):
    def test_the_example(self):
        for many in range(5):
            for kept in itertools.permutations("abcd", many):
                for some in [kept, list(kept)]:
                    self.assertIs(is_cheapest(EXAMPLE, EQUAL, some), tuple(sorted(kept)) in CHEAPEST)

    def test_prices_decide(self):
        for prices, expected in [
            ({**EQUAL, "a": 5}, [("a", "c"), ("a", "d")]),
            ({**EQUAL, "d": 3}, [("a", "c"), ("b", "c")]),
            ({**EQUAL, "a": 999, "d": 999}, [("a", "d")]),
            ({"a": 4, "b": 4, "c": 4}, [("a", "d"), ("b", "d")]),
            ({"b": 4, "d": 4, "z": 1}, [("a", "c")]),
            ({"b": 4}, []), ({}, []),
        ]:
            for kept in drawn.subsets("abcd"):
                self.assertIs(is_cheapest(EXAMPLE, prices, kept), kept in expected)

    def test_a_plan_without_conflicts(self):
        plan = Plan(9, {"a": 2, "b": 3}, [("a", "b", 1)])
        for prices in [{}, {"a": 1}, {"a": 1, "b": 999}]:
            for kept in [(), ("a",), ("b",), ("a", "b"), ("b", "a")]:
                self.assertIs(is_cheapest(plan, prices, kept), len(kept) == 2)
        for kept, expected in [([], True), ((), True), ([""], False), (["a"], False), ({}, False), ("", False)]:
            self.assertIs(is_cheapest(Plan(9, {}), {}, kept), expected)

    def test_all_sets_of_tasks(self):
        dice = random.Random(121)
        several = 0
        for plan, prices in plans_and_prices(122, 40):
            cheapest = drawn.cheapest_of(drawn.free_repairs(plan, prices))
            several += len(cheapest) > 2
            for kept in drawn.subsets(sorted(plan.times())):
                some = dice.sample(kept, len(kept))
                self.assertIs(is_cheapest(plan, prices, some), kept in cheapest)
                self.assertIs(is_cheapest(plan, prices, tuple(some)), kept in cheapest)
                if kept in cheapest:
                    for more in [[*some, "other"], [*some, ""], ["", *some], some + [*some, "a"][:1], [*some, None], [some]]:
                        self.assertIs(is_cheapest(plan, prices, more), False)
                        self.assertIs(is_cheapest(plan, prices, tuple(more)), False)
        self.assertGreater(several, 10)

    def test_a_task_twice(self):
        for kept in CHEAPEST:
            for more in kept:
                self.assertIs(is_cheapest(EXAMPLE, EQUAL, [*kept, more]), False)
                self.assertIs(is_cheapest(EXAMPLE, EQUAL, (more, *kept)), False)

    def test_any_object(self):
        for thing in ANYTHING + [{"a": 1, "c": 1}, "ac", {"a": 1, "c": 1}.keys(), b"ac"]:
            self.assertIs(is_cheapest(EXAMPLE, EQUAL, thing), False)
            self.assertIs(is_cheapest(BLOCKED, {}, thing), False)
            self.assertIs(is_cheapest(EXAMPLE, EQUAL, ["a", thing]), thing in ("c", "d"))
            self.assertIs(is_cheapest(EXAMPLE, EQUAL, ["a", "c", thing]), False)
            self.assertIs(is_cheapest(EXAMPLE, EQUAL, (thing, "a", "c")), False)

    def test_no_repair(self):
        for prices in [{}, {"c": 1}, {"z": 1}]:
            for kept in drawn.subsets("abc"):
                self.assertIs(is_cheapest(BLOCKED, prices, kept), False)

    def test_thirty_tasks(self):
        dice = random.Random(124)
        for plan in [drawn.row_of_thirty(), drawn.draw_plan(dice, 30, 1000, 100)]:
            prices = {name: dice.choice([1, 2]) for name in plan.times()}
            for function in [lowest, highest]:
                _, kept = function(plan, prices)
                self.assertIs(is_cheapest(plan, prices, dice.sample(kept, len(kept))), True)
                self.assertIs(is_cheapest(plan, prices, kept[1:]), False)
                dearer = {**prices, **{name: prices[name] + 1 for name in kept}}
                self.assertIs(is_cheapest(plan, dearer, kept), True)


class MeetAndJoinTest(unittest.TestCase):
    def assert_invalid(self, plan, prices, first, second):
        for function in [meet, join]:
            with self.subTest(first=repr(first)[:40], second=repr(second)[:40]), self.assertRaises(InvalidKept):
                function(plan, prices, first, second)

    def test_the_example(self):
        found = [meet(EXAMPLE, EQUAL, ['a', 'd'], ['b', 'c']), join(EXAMPLE, EQUAL, ['a', 'd'], ['b', 'c'])]
        self.assertEqual(found, [('a', 'c'), ('b', 'd')])
        self.assertEqual(meet(EXAMPLE, EQUAL, ("d", "b"), ["c", "b"]), ("b", "c"))
        self.assertEqual(join(EXAMPLE, EQUAL, ("d", "b"), ["c", "b"]), ("b", "d"))

    def test_every_two_cheapest_repairs(self):
        dice = random.Random(131)
        different = 0
        for plan, prices in plans_and_prices(132, 40):
            pairs = set(drawn.plain_conflicts(plan))
            cheapest = drawn.cheapest_of(drawn.free_repairs(plan, prices))
            for first, second in itertools.product(cheapest[:12], repeat=2):
                one, other = dice.sample(first, len(first)), tuple(dice.sample(second, len(second)))
                low, high = meet(plan, prices, one, other), join(plan, prices, one, other)
                self.assertEqual([type(low), type(high)], [tuple, tuple])
                self.assertEqual(low, drawn.plain_meet(pairs, first, second))
                self.assertEqual(high, drawn.plain_join(pairs, first, second))
                self.assertIn(low, cheapest)
                self.assertIn(high, cheapest)
                self.assertTrue(drawn.is_below(pairs, low, first) and drawn.is_below(pairs, second, high))
                different += low not in (first, second)
        self.assertGreater(different, 10)

    def test_with_itself_and_with_the_ends(self):
        for plan, prices in plans_and_prices(134, 30):
            for kept in drawn.cheapest_of(drawn.free_repairs(plan, prices)):
                low, high = lowest(plan, prices)[1], highest(plan, prices)[1]
                self.assertEqual([meet(plan, prices, kept, kept), join(plan, prices, kept, kept)], [kept, kept])
                self.assertEqual([meet(plan, prices, kept, low), join(plan, prices, low, kept)], [low, kept])
                self.assertEqual([meet(plan, prices, high, kept), join(plan, prices, kept, high)], [kept, high])

    def test_a_plan_without_tasks(self):
        for function in [meet, join]:
            self.assertEqual(function(Plan(9, {}), {}, [], ()), ())

    def test_all_sets_of_tasks_in_either_place(self):
        for kept in drawn.subsets("abcd"):
            if kept in CHEAPEST:
                self.assertIn(meet(EXAMPLE, EQUAL, kept, ["a", "c"]), CHEAPEST)
                self.assertIn(join(EXAMPLE, EQUAL, ["a", "c"], kept), CHEAPEST)
                continue
            self.assert_invalid(EXAMPLE, EQUAL, kept, ["a", "c"])
            self.assert_invalid(EXAMPLE, EQUAL, ["a", "c"], list(kept))
            self.assert_invalid(EXAMPLE, EQUAL, kept, kept)

    def test_any_object_in_either_place(self):
        things = ANYTHING + [{"a": 1, "c": 1}, "ac", ["a", "c", "a"], ["a", "c", ""], ["a", "c", "z"]]
        for thing in things + [["a", other] for other in ANYTHING]:
            self.assert_invalid(EXAMPLE, EQUAL, thing, ["a", "c"])
            self.assert_invalid(EXAMPLE, EQUAL, ("a", "c"), thing)
            self.assert_invalid(EXAMPLE, EQUAL, thing, thing)

    def test_no_repair(self):
        for thing in ANYTHING + drawn.subsets("abc"):
            self.assert_invalid(BLOCKED, {"c": 1}, thing, thing)
            self.assert_invalid(BLOCKED, {}, ["a", "c"], thing)


class KeptTest(unittest.TestCase):
    def test_the_example(self):
        found = [always_kept(EXAMPLE, EQUAL), sometimes_kept(EXAMPLE, EQUAL)]
        self.assertEqual(found, [(), ('a', 'b', 'c', 'd')])

    def test_prices_decide(self):
        for prices, always, sometimes in [
            ({**EQUAL, "a": 5}, ("a",), ("a", "c", "d")),
            ({**EQUAL, "b": 999, "d": 1}, ("b", "c"), ("b", "c")),
            ({"a": 4, "b": 4, "c": 4}, ("d",), ("a", "b", "d")),
            ({"a": 4, "c": 4, "z": 1}, ("b", "d"), ("b", "d")),
        ]:
            self.assertEqual([always_kept(EXAMPLE, prices), sometimes_kept(EXAMPLE, prices)], [always, sometimes])

    def test_a_task_against_the_origin(self):
        plan = Plan(9, {"a": 0, "b": 5}, [("", "a", 1)])
        for price in [1, 2, 999]:
            for prices in [{"a": price}, {"a": price, "b": 1}]:
                self.assertEqual([always_kept(plan, prices), sometimes_kept(plan, prices)], [("b",), ("b",)])

    def test_a_task_against_a_firm_task(self):
        plan = Plan(9, {"a": 2, "b": 2, "c": 2}, [("a", "b", 1), ("b", "c", 1)])
        for prices, expected in [({"a": 1, "b": 1}, ("c",)), ({"a": 1, "c": 9}, ("b",)), ({"c": 1, "b": 999}, ("a",))]:
            self.assertEqual([always_kept(plan, prices), sometimes_kept(plan, prices)], [expected, expected])

    def test_a_plan_without_conflicts(self):
        plan = Plan(9, {"b": 3, "a": 2}, [("a", "b", 1)])
        for prices in [{}, {"a": 1}, {"a": 1, "b": 999}]:
            self.assertEqual([always_kept(plan, prices), sometimes_kept(plan, prices)], [("a", "b"), ("a", "b")])
        self.assertEqual([always_kept(Plan(9, {}), {}), sometimes_kept(Plan(9, {}), {})], [(), ()])

    def test_all_cheapest_repairs(self):
        between = 0
        for plan, prices in plans_and_prices(142, 60):
            cheapest = [set(kept) for kept in drawn.cheapest_of(drawn.free_repairs(plan, prices))]
            if not cheapest:
                continue
            always, sometimes = always_kept(plan, prices), sometimes_kept(plan, prices)
            self.assertEqual([type(always), type(sometimes)], [tuple, tuple])
            self.assertEqual(always, tuple(sorted(set.intersection(*cheapest))))
            self.assertEqual(sometimes, tuple(sorted(set.union(*cheapest))))
            between += bool(always) and always != sometimes
        self.assertGreater(between, 10)

    def test_thirty_tasks(self):
        names = drawn.long_names(30)
        plan = Plan(9, dict.fromkeys(names, 5), [(names[at], names[at + 1], 1) for at in range(0, 30, 2)])
        self.assertEqual(always_kept(plan, dict.fromkeys(names, 999)), ())
        self.assertEqual(sometimes_kept(plan, dict.fromkeys(names, 999)), tuple(names))
        prices = {name: 1 + at for at, name in enumerate(names)}
        for function in [always_kept, sometimes_kept]:
            self.assertEqual(function(plan, prices), tuple(names[1::2]))

    def test_no_repair(self):
        for prices, pair in [({}, ("a", "b")), ({"c": 1}, ("a", "b")), ({"a": 1}, ("c", "b")), ({"z": 9}, ("a", "b"))]:
            for function in [always_kept, sometimes_kept]:
                with self.assertRaises(NoRepair) as caught:
                    function(BLOCKED, prices)
                self.assertEqual(caught.exception.pair, pair)
        self.assertEqual(sometimes_kept(BLOCKED, {"b": 1}), ("a", "c"))


class ArgumentsTest(unittest.TestCase):
    def assert_invalid(self, plan, prices):
        for call in [
            lambda: is_cheapest(plan, prices, ["a", "c"]),
            lambda: is_cheapest(plan, prices, None),
            lambda: meet(plan, prices, ["a", "c"], ["a", "c"]),
            lambda: meet(plan, prices, None, ["z"]),
            lambda: join(plan, prices, ["a", "c"], ["a", "c"]),
            lambda: join(plan, prices, [[]], None),
            lambda: always_kept(plan, prices),
            lambda: sometimes_kept(plan, prices),
        ]:
            with self.subTest(prices=repr(prices)[:40]), self.assertRaises(InvalidPrices):
                call()

    def test_invalid_prices_go_ahead_of_the_other_errors(self):
        for plan in [EXAMPLE, BLOCKED]:
            for thing in ANYTHING + [{"a": 1000}, {"z": 0}, {"a": True}, {"": 1}, [("a", 1)]]:
                if thing != {}:
                    self.assert_invalid(plan, thing)

    def test_by_name(self):
        self.assertIs(is_cheapest(kept=["a", "c"], prices=EQUAL, plan=EXAMPLE), True)
        found = meet(second=["a", "d"], first=["b", "d"], prices=EQUAL, plan=EXAMPLE)
        self.assertEqual(found, ("a", "d"))
        self.assertEqual(join(second=["a", "d"], first=["b", "d"], prices=EQUAL, plan=EXAMPLE), ("b", "d"))
        self.assertEqual(always_kept(prices={**EQUAL, "a": 5}, plan=EXAMPLE), ("a",))
        self.assertEqual(sometimes_kept(prices={**EQUAL, "a": 5}, plan=EXAMPLE), ("a", "c", "d"))

    def test_arguments_stay_as_they_are(self):
        seen = drawn.state_of(EXAMPLE)
        prices = {"d": 4, "c": 4, "b": 4, "a": 4, "z": 1}
        first, second = ["d", "a"], ["c", "b"]
        for _ in range(2):
            self.assertEqual(meet(EXAMPLE, prices, first, second), ("a", "c"))
            self.assertEqual(join(EXAMPLE, prices, first, second), ("b", "d"))
            self.assertIs(is_cheapest(EXAMPLE, prices, first), True)
            self.assertEqual([always_kept(EXAMPLE, prices), sometimes_kept(EXAMPLE, prices)], [(), tuple("abcd")])
        self.assertEqual([first, second], [["d", "a"], ["c", "b"]])
        self.assertEqual(list(prices.items()), [("d", 4), ("c", 4), ("b", 4), ("a", 4), ("z", 1)])
        self.assertEqual(drawn.state_of(EXAMPLE), seen)


if __name__ == "__main__":
    unittest.main()
