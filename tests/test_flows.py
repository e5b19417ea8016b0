"""Tests of retime.flows: greatest flows."""

import itertools
import random
import unittest

from retime.flows import Flow


def draw_network(dice):
    """Return drawn pairs that have no way around, and limits."""
    nodes = [""] + list("abcdef")
    limits = {node: dice.randint(1, dice.choice([1, 2, 9])) for node in nodes}
    share = dice.randint(1, 9)
    pairs = [pair for pair in itertools.combinations(nodes, 2) if dice.randint(0, 9) < share]
    return pairs, limits


def least_cut(pairs, limits):
    """Return the least sum of limits of senders and receivers that take part in each pair, by all sets of senders."""
    sums = []
    nodes = list(limits)
    for many in range(len(nodes) + 1):
        for senders in itertools.combinations(nodes, many):
            receivers = {second for first, second in pairs if first not in senders}
            sums.append(sum(limits[node] for node in [*senders, *receivers]))
    return min(sums)


class FlowTest(unittest.TestCase):
    def test_no_pairs(self):
        flow = Flow([], {"": 1, "a": 5})
        self.assertEqual([flow.total(), flow.kept(), flow.amounts], [0, ["", "a"], {}])

    def test_one_pair(self):
        for limits, total, kept in [({"a": 2, "b": 5}, 2, ["b"]), ({"a": 5, "b": 2}, 2, ["a"]), ({"a": 2, "b": 2}, 2, ["b"])]:
            flow = Flow([("a", "b")], limits)
            self.assertEqual([flow.total(), flow.kept(), flow.amounts], [total, kept, {("a", "b"): total}])

    def test_a_way_over_several_pairs(self):
        # The direct ways first taken from b leave a without a receiver.
        limits = {"b": 1, "a": 1, "x": 1, "y": 1}
        flow = Flow([("b", "x"), ("b", "y"), ("a", "x")], limits)
        self.assertEqual(flow.total(), 2)
        self.assertEqual(flow.amounts, {("b", "x"): 0, ("b", "y"): 1, ("a", "x"): 1})

    def test_drawn_networks(self):
        dice = random.Random(91)
        for _ in range(300):
            pairs, limits = draw_network(dice)
            flow = Flow(pairs, limits)
            self.assertEqual(list(flow.amounts), pairs)
            self.assertTrue(all(amount >= 0 for amount in flow.amounts.values()))
            for node in limits:
                sent = sum(amount for (first, _), amount in flow.amounts.items() if first == node)
                received = sum(amount for (_, second), amount in flow.amounts.items() if second == node)
                self.assertEqual([sent, received], [flow.sent[node], flow.received[node]])
                self.assertLessEqual(max(sent, received), limits[node])
            self.assertEqual(flow.total(), sum(flow.amounts.values()))
            self.assertEqual(flow.total(), least_cut(pairs, limits))

    def test_arguments_stay_as_they_are(self):
        pairs, limits = draw_network(random.Random(92))
        seen = (list(pairs), dict(limits))
        Flow(pairs, limits)
        self.assertEqual((pairs, limits), seen)


if __name__ == "__main__":
    unittest.main()
