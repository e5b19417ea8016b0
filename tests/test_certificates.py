"""Tests of retime.certificates: certificates that no repair is cheaper, or that there is none [21] to [23]."""

import itertools
import random
import unittest

import drawn
from anything import ANYTHING
from retime.certificates import certificate, check_certificate
from retime.errors import InvalidPrices
from retime.plans import Plan

EXAMPLE = Plan(20, {'a': 0, 'b': 3, 'c': 5}, [('a', 'b', 2), ('b', 'c', 3)])
ROW = Plan(20, {name: 9 for name in "abcde"}, [(*pair, 1) for pair in itertools.pairwise("abcde")])
COSTS = {"a": 2, "b": 5, "c": 3, "d": 4, "e": 9}


class CertificatesCase(unittest.TestCase):
    def assert_certified(self, plan, prices, least):
        """Check that the certificate supports the least price, or the bar None if there is no repair."""
        found = certificate(plan, prices)
        self.assertIs(type(found), list)
        for entry in found:
            self.assertEqual([type(entry), type(entry[0]), type(entry[1])], [tuple, tuple, int])
            self.assertTrue(all(type(node) is str for node in entry[0]))
        self.assertTrue(drawn.is_supporting(plan, prices, found, least), (prices, found))
        self.assertIs(check_certificate(plan, prices, found, least), True)
        if least is not None:
            self.assertEqual(drawn.sum_of(found), least)
            self.assertIs(check_certificate(plan, prices, found, least + 1), False)
            self.assertIs(check_certificate(plan, prices, found, None), False)
        return found

    def assert_checked(self, plan, prices, thing, bars):
        """Check the answers for a thing and some bars against the definition."""
        for bar in bars:
            with self.subTest(thing=repr(thing)[:80], bar=bar):
                expected = drawn.is_supporting(plan, prices, thing, bar)
                self.assertIs(check_certificate(plan, prices, thing, bar), expected)


def bars_around(thing):
    """Return bars around the sum of a certificate, and the other ones of interest."""
    most = drawn.sum_of(thing)
    return [most - 1, most, most + 1, 0, 1, -1, -10 ** 6, None]


def changed_entries(entry, nodes):
    """Return many entries that differ a little from one of a certificate."""
    chain, amount = entry
    found = [(chain, other) for other in [amount + 1, amount - 1, 0, -1, -amount, 999, 1000]]
    found += [(chain, other) for other in [True, False, None, "1", [1], (1,), {}, [[]]]]
    for other in [chain[1:], chain[:-1], chain[:1], (), chain[::-1], chain + chain, chain[:1] + chain, chain[:1] + chain[2:]]:
        found.append((other, amount))
    for node in [*nodes, "other", "A", None, 0, True, [], {}, ("a",)]:
        found += [(chain + (node,), amount), ((node,) + chain, amount), (chain[:1] + (node,) + chain[1:], amount)]
        found.append((chain[:-1] + (node,), amount))
    found += [(list(chain), amount), list(entry), (chain,), (chain, amount, amount), chain, amount, None, (), "ab"]
    found += [(amount, chain), {"a": 1}, ("".join(chain), amount), ({node: 1 for node in chain}, amount)]
    return found


def changed_certificates(found, nodes):
    """Return many lists that differ a little from a certificate."""
    result = [found + found, list(reversed(found)), tuple(found), [found]]
    for at, entry in enumerate(found):
        ahead, behind = found[:at], found[at + 1:]
        result += [ahead + behind, found + [entry], [entry], ahead + [entry, entry] + behind]
        for other in changed_entries(entry, nodes):
            result += [ahead + [other] + behind, found + [other]]
    return result


class ExamplesTest(CertificatesCase):
    def test_the_example(self):
        prices = {'b': 1, 'c': 5}
        self.assertEqual(certificate(EXAMPLE, prices), [(('b', 'c'), 1)])
        self.assertIs(check_certificate(EXAMPLE, prices, [(('b', 'c'), 1)], 1), True)
        self.assertIs(check_certificate(EXAMPLE, prices, [(('b', 'c'), 1)], 2), False)
        self.assertIs(check_certificate(EXAMPLE, {'c': 5}, [(('b', 'c'), 1)], None), False)
        self.assertIs(check_certificate(EXAMPLE, {'a': 5}, [(('b', 'c'), 1)], None), True)

    def test_prices_in_many_forms(self):
        for prices, least in [
            ({"b": 1, "c": 999}, 1), ({"b": 999, "c": 1}, 1), ({"b": 999, "c": 999}, 999), ({"b": 7}, 7), ({"c": 7}, 7),
            ({"a": 1, "b": 4, "c": 3}, 3), ({"b": 4, "c": 4, "other": 1}, 4), ({"other": 1}, None), ({}, None), ({"a": 1}, None),
        ]:
            self.assert_certified(EXAMPLE, prices, least)

    def test_plans_without_conflicts(self):
        for plan in [Plan(9, {}), Plan(0, {"a": 0}), Plan(20, {"a": 0, "b": 2}, [("a", "b", 2)])]:
            for prices in [{}, {"a": 1}, {"a": 1, "b": 999}, {"other": 5}]:
                self.assertEqual(self.assert_certified(plan, prices, 0), [])

    def test_a_chain_of_conflicts(self):
        self.assert_certified(ROW, dict.fromkeys("abcde", 3), 12)
        self.assert_certified(ROW, COSTS, 14)
        self.assert_certified(ROW, {**COSTS, "e": 1}, 10)
        self.assert_certified(ROW, {name: COSTS[name] for name in "abce"}, 19)
        self.assert_certified(ROW, {name: COSTS[name] for name in "abd"}, None)

    def test_a_chain_through_the_origin(self):
        plan = Plan(9, {"a": 2, "b": 7, "c": 4}, [("", "a", 3), ("b", "", -5)])
        for prices in [{"a": 2, "b": 5}, {"a": 5, "b": 2, "c": 1}, {"a": 999, "b": 1}]:
            self.assert_certified(plan, prices, prices["a"] + prices["b"])
        for prices in [{"a": 1}, {"b": 1}, {}]:
            self.assert_certified(plan, prices, None)

    def test_two_firm_nodes_that_are_not_beside_each_other(self):
        thing = [(("a", "b", "c"), 1)]
        self.assert_checked(ROW, {"b": 1}, thing, [None, 0, 2, 3])
        self.assertIs(check_certificate(ROW, {"b": 1}, thing, None), True)
        self.assertIs(check_certificate(ROW, {"b": 1, "c": 1}, thing, None), False)
        self.assertIs(check_certificate(ROW, {"b": 1}, [(("a", "b", "c"), 2)], None), False)

    def test_two_firm_nodes_in_different_chains(self):
        thing = [(("a", "b"), 1), (("b", "c"), 1)]
        self.assertIs(check_certificate(ROW, {"b": 2}, thing, None), False)
        self.assertIs(check_certificate(ROW, {"b": 2}, thing + [(("d", "e"), 1)], None), True)

    def test_the_empty_list(self):
        for plan in [EXAMPLE, Plan(9, {})]:
            for prices in [{}, {"b": 1}]:
                for bar, expected in [(0, True), (-1, True), (1, False), (None, False)]:
                    self.assertIs(check_certificate(plan, prices, [], bar), expected)

    def test_the_sum_of_the_amounts_for_one_task(self):
        for amounts, expected in [((2, 3), True), ((3, 3), False), ((1, 1), True), ((5, 1), False), ((2, 4), False)]:
            thing = [(("a", "b"), amounts[0]), (("b", "c"), amounts[1])]
            self.assertIs(check_certificate(ROW, {"b": 5, "a": 9, "c": 9}, thing, 0), expected)
            self.assertIs(check_certificate(ROW, {"b": 5}, thing, 0), expected)
            self.assertIs(check_certificate(ROW, {"a": 9, "c": 9}, thing, 0), True)

    def test_firm_nodes_take_any_amount(self):
        for amount in [1000, 10 ** 39]:
            thing = [(("a", "b"), amount)]
            self.assertIs(check_certificate(ROW, {"c": 1}, thing, amount), True)
            self.assertIs(check_certificate(ROW, {"c": 1}, thing, amount + 1), False)
            self.assertIs(check_certificate(ROW, {"c": 1}, thing, None), True)
            self.assertIs(check_certificate(ROW, {"b": 999}, thing, 1), False)

    def test_a_longer_chain_counts_more(self):
        for chain in ["ab", "ae", "abc", "ace", "abcde", "bcd"]:
            sums = (len(chain) - 1) * 2
            for bar in range(10):
                self.assertIs(check_certificate(ROW, COSTS, [(tuple(chain), 2)], bar), bar <= sums)


class DrawnTest(CertificatesCase):
    def test_small_plans_against_all_repairs(self):
        dice = random.Random(101)
        seen = set()
        plans = drawn.draw_plans(102, 150) + [drawn.draw_crowd(dice, 5, 12, 6) for _ in range(100)]
        for plan in plans:
            for prices in [drawn.draw_prices(dice, plan), dict.fromkeys(plan.times(), dice.choice([1, 7, 999])), {}]:
                least = min(drawn.free_repairs(plan, prices).values(), default=None)
                found = self.assert_certified(plan, prices, least)
                seen.add((least is None, min(len(found), 3)))
        self.assertLessEqual({(True, 1), (False, 0), (False, 1), (False, 2), (False, 3)}, seen)

    def test_eight_tasks(self):
        dice = random.Random(103)
        long_chains = 0
        for _ in range(60):
            plan = drawn.draw_crowd(dice, 8, 30, dice.randint(4, 14), dice.randint(0, 3))
            amounts = dice.choice([[1], [999], [1, 2], [3, 4, 7], range(1, 1000)])
            for prices in [{name: dice.choice(amounts) for name in plan.times()}, drawn.draw_prices(dice, plan)]:
                least = min(drawn.free_repairs(plan, prices).values(), default=None)
                found = self.assert_certified(plan, prices, least)
                long_chains += any(len(chain) > 2 for chain, _ in found)
        self.assertGreater(long_chains, 10)

    def test_thirty_tasks(self):
        dice = random.Random(104)
        plans = [drawn.draw_plan(dice, 30, 1000, lags) for lags in [10, 40, 100, 100]]
        plans += [drawn.draw_crowd(dice, 30, 1000, 30, spread) for spread in [0, 3]] + [drawn.row_of_thirty()]
        for plan in plans:
            for amounts in [[1], [1, 999], range(1, 1000)]:
                prices = {name: dice.choice(amounts) for name in plan.times()}
                firm = dice.sample(list(prices), 3)
                for some in [prices, {name: prices[name] for name in prices if name not in firm}]:
                    self.assert_certified(plan, some, drawn.least_price(plan, some))

    def test_thirty_tasks_with_all_conflicts(self):
        names = drawn.long_names(30)
        plan = Plan(99, dict.fromkeys(names, 40), [(*pair, 1) for pair in itertools.pairwise(names)])
        self.assert_certified(plan, {name: 1 + at for at, name in enumerate(names)}, sum(range(1, 30)))
        self.assert_certified(plan, {name: 30 - at for at, name in enumerate(names)}, sum(range(1, 30)))
        self.assert_certified(plan, dict.fromkeys(names, 999), 29 * 999)
        self.assert_certified(plan, dict.fromkeys(names[2:], 1), None)

    def test_true_certificates_with_a_change(self):
        dice = random.Random(105)
        seen = set()
        plans = [EXAMPLE, ROW] + [drawn.draw_crowd(dice, 4, 12, 4) for _ in range(12)] + drawn.draw_plans(106, 10)
        for plan in plans:
            for prices in [drawn.draw_prices(dice, plan), {name: dice.randint(1, 4) for name in plan.times()}]:
                found = certificate(plan, prices)
                self.assert_checked(plan, prices, found, bars_around(found))
                for thing in changed_certificates(found, drawn.nodes_of(plan)):
                    bars = [0, drawn.sum_of(found), None]
                    self.assert_checked(plan, prices, thing, bars)
                    seen.update(drawn.is_supporting(plan, prices, thing, bar) for bar in bars)
        self.assertEqual(seen, {True, False})

    def test_drawn_lists_of_chains(self):
        dice = random.Random(107)
        seen = {True: 0, False: 0}
        plans = [drawn.draw_crowd(dice, dice.randint(2, 7), 12, 6) for _ in range(60)] + drawn.draw_plans(108, 40)
        for plan in plans:
            chains = drawn.all_chains(plan)
            prices = drawn.draw_prices(dice, plan)
            for _ in range(20 if chains else 0):
                thing = [(dice.choice(chains), dice.randint(1, 3)) for _ in range(dice.randint(0, 4))]
                self.assert_checked(plan, prices, thing, bars_around(thing))
                seen[drawn.is_supporting(plan, prices, thing, 0)] += 1
        self.assertGreater(min(seen.values()), 100)

    def test_drawn_tuples_of_nodes(self):
        dice = random.Random(109)
        seen = {True: 0, False: 0}
        for plan in [EXAMPLE, ROW] + [drawn.draw_crowd(dice, 4, 9, 5) for _ in range(20)]:
            nodes = drawn.nodes_of(plan)
            for _ in range(100):
                thing = [(tuple(dice.choices(nodes, k=dice.randint(1, 3))), 1)]
                self.assert_checked(plan, {}, thing, [0, 1, 2, None])
                seen[drawn.is_supporting(plan, {}, thing, 0)] += 1
        self.assertGreater(min(seen.values()), 50)


class ArgumentsTest(CertificatesCase):
    def test_any_object_as_the_thing(self):
        for thing in ANYTHING + [b"", {(("b", "c"), 1): 1}, [((("b", "c"), 1),)], ((("b", "c"), 1),)]:
            self.assert_checked(EXAMPLE, {"b": 1, "c": 5}, thing, [0, 1, -1, None])

    def test_any_object_in_a_certificate(self):
        for thing in ANYTHING:
            for entry in [thing, (thing, 1), (("b", "c"), thing), (("b", thing), 1), ((thing, "c"), 1), (("b", thing, "c"), 1)]:
                for prices in [{"b": 9, "c": 5}, {}]:
                    self.assert_checked(EXAMPLE, prices, [entry], [0, -1, None])
                    self.assert_checked(EXAMPLE, prices, [(("b", "c"), 1), entry], [0, None])

    def test_bools_are_no_amounts(self):
        for amount in [True, False]:
            for bar in [0, 1, -1, None]:
                self.assertIs(check_certificate(EXAMPLE, {"b": 1}, [(("b", "c"), amount)], bar), False)

    def test_any_object_as_the_prices(self):
        for thing in ANYTHING + [{"b": 1, "c": 1000}, {"b": 0}, {"z": True}, {"b": 1.0}, [("b", 1)], {"b": 1, 0: 1}]:
            if thing == {}:
                continue
            for call in [
                lambda: certificate(EXAMPLE, thing),
                lambda: check_certificate(EXAMPLE, thing, [], 0),
                lambda: check_certificate(EXAMPLE, thing, None, None),
            ]:
                with self.subTest(thing=repr(thing)[:40]), self.assertRaises(InvalidPrices):
                    call()

    def test_by_name(self):
        prices = {"b": 1, "c": 5}
        self.assertEqual(certificate(prices=prices, plan=EXAMPLE), [(("b", "c"), 1)])
        self.assertIs(check_certificate(bar=1, thing=[(("b", "c"), 1)], prices=prices, plan=EXAMPLE), True)

    def test_each_list_is_new(self):
        for prices in [{"b": 1, "c": 5}, {}]:
            found = certificate(EXAMPLE, prices)
            self.assertIsNot(certificate(EXAMPLE, prices), found)
            again = list(found)
            found.append((("a", "b"), 3))
            del found[0]
            self.assertEqual(certificate(EXAMPLE, prices), again)

    def test_arguments_stay_as_they_are(self):
        dice = random.Random(110)
        for plan in [EXAMPLE, ROW] + drawn.draw_plans(111, 40):
            prices = drawn.draw_prices(dice, plan)
            seen = (drawn.state_of(plan), list(prices.items()))
            thing = certificate(plan, prices)
            for entries in [thing, thing + thing, [(["b", "c"], [1])]]:
                again = repr(entries)
                for bar in [0, None]:
                    check_certificate(plan, prices, entries, bar)
                self.assertEqual(repr(entries), again)
            self.assertEqual(certificate(plan, prices), thing)
            self.assertEqual((drawn.state_of(plan), list(prices.items())), seen)


if __name__ == "__main__":
    unittest.main()
