"""Tests of retime.history: the versions of a plan [28]."""

import random
import unittest

import drawn
from anything import ANYTHING
from retime.conflicts import conflicts
from retime.edits import apply_edits
from retime.errors import InconsistentLags, InvalidEdit, InvalidKept, InvalidPrices, NoRepair, UnknownVersion
from retime.history import History
from retime.keeping import earliest
from retime.plans import Plan
from retime.repairs import lowest, repair

EXAMPLE = Plan(20, {'a': 0, 'b': 3}, [('a', 'b', 2)])
EDITS = [('task', 'c', 5), ('lag', 'b', 'c', 3)]


def state_of(history):
    """Return all that can be seen of a history."""
    many = len(history)
    plans = [drawn.state_of(history.plan(version)) for version in range(many)]
    moves = [history.moved(first, second) for first in range(many) for second in range(many)]
    return (many, plans, moves, history.spent(), drawn.state_of(history.plan()))


class HistoryCase(unittest.TestCase):
    def assert_fails(self, history, error, *arguments, **named):
        """Check that an update raises an error and changes nothing; return the error."""
        seen = state_of(history)
        with self.subTest(arguments=repr(arguments)[:80]), self.assertRaises(error) as caught:
            history.update(*arguments, **named)
        self.assertIs(type(caught.exception), error)
        self.assertEqual(state_of(history), seen)
        return caught.exception

    def assert_updated(self, history, edits, prices, hold, price):
        """Check an update against the repair of the plan after the edits."""
        many, spent = len(history), history.spent()
        before = history.plan()
        changed = apply_edits(before, edits)
        free = {name: prices[name] for name in prices if name not in hold}
        self.assertEqual(lowest(changed, free)[0], price)
        found = history.update(edits, prices, hold)
        self.assertIs(type(found), int)
        self.assertEqual([found, len(history), history.spent()], [price, many + 1, spent + price])
        self.assertEqual(history.plan(), repair(changed, free))
        self.assertEqual(history.plan(many), history.plan())
        self.assertEqual(history.plan(many - 1), before)
        self.assertEqual(conflicts(history.plan()), ())


class UpdateTest(HistoryCase):
    def test_the_example(self):
        history = History(EXAMPLE)
        self.assertEqual(history.update(EDITS, {'a': 1, 'b': 1}, hold=['a']), 1)
        self.assertEqual(
            [history.plan().times(), history.moved(0, 1), history.spent()], [{'a': 0, 'b': 2, 'c': 5}, ('b',), 1]
        )

    def test_version_0(self):
        for plan in [EXAMPLE, Plan(0, {}), Plan(9, {"a": 5, "b": 0}, [("a", "b", 2)]), drawn.row_of_thirty()]:
            history = History(plan)
            self.assertEqual([len(history), history.spent(), history.moved(0, 0)], [1, 0, ()])
            self.assertEqual([history.plan(), history.plan(0), history.plan(None)], [plan, plan, plan])

    def test_no_edits(self):
        history = History(EXAMPLE)
        for many in range(1, 4):
            self.assertEqual(history.update([], {}), 0)
            self.assertEqual([len(history), history.plan(), history.spent()], [many + 1, EXAMPLE, 0])
        history = History(Plan(9, {"a": 5, "b": 0}, [("a", "b", 2)]))
        self.assert_updated(history, [], {"a": 4, "b": 3}, (), 3)
        self.assertEqual(history.plan(0).times(), {"a": 5, "b": 0})
        self.assertEqual(history.plan(1).times(), {"a": 5, "b": 7})

    def test_several_updates(self):
        history = History(EXAMPLE)
        self.assert_updated(history, EDITS, {"a": 1, "b": 1}, ["a"], 1)
        self.assert_updated(history, [("time", "a", 3)], {"a": 1, "b": 2, "c": 7}, ["a"], 9)
        self.assert_updated(history, [("drop", "b")], {}, (), 0)
        self.assert_updated(history, [("lag", "a", "c", 6)], {"a": 4, "c": 4}, [], 4)
        self.assertEqual([len(history), history.spent()], [5, 14])
        times = [history.plan(version).times() for version in range(5)]
        self.assertEqual(times, [
            {"a": 0, "b": 3}, {"a": 0, "b": 2, "c": 5}, {"a": 3, "b": 5, "c": 8}, {"a": 3, "c": 8}, {"a": 3, "c": 9},
        ])

    def test_hold_in_many_forms(self):
        for hold in [["a"], ("a",), ["a", "c"], ("c", "a")]:
            self.assert_updated(History(EXAMPLE), EDITS, {"a": 1, "b": 1, "c": 1}, hold, 1)
        prices = {"a": 1, "b": 5, "c": 1}
        for arguments, named, price in [
            ((EDITS, prices), {}, 1), ((EDITS, prices, []), {}, 1), ((EDITS, prices, ()), {}, 1),
            ((EDITS, prices), {"hold": ["c"]}, 5), ((EDITS,), {"hold": ("c",), "prices": prices}, 5),
            ((), {"hold": ["b"], "prices": prices, "edits": EDITS}, 1), ((), {"prices": prices, "edits": EDITS}, 1),
        ]:
            self.assertEqual(History(EXAMPLE).update(*arguments, **named), price)

    def test_held_tasks_are_firm_even_if_they_have_a_price(self):
        prices = {"b": 1, "c": 5}
        history = History(EXAMPLE)
        self.assert_updated(history, EDITS, prices, ["b"], 5)
        self.assertEqual(history.plan().times(), {"a": 0, "b": 3, "c": 6})
        history = History(EXAMPLE)
        self.assert_updated(history, EDITS, prices, ["c"], 1)
        self.assertEqual(history.plan().times(), {"a": 0, "b": 2, "c": 5})
        error = self.assert_fails(History(EXAMPLE), NoRepair, EDITS, prices, ["b", "c"])
        self.assertEqual(error.pair, ("b", "c"))

    def test_edits_as_a_tuple(self):
        self.assert_updated(History(EXAMPLE), tuple(EDITS), {"b": 2}, (), 2)

    def test_the_lowest_cheapest_repair_with_the_earliest_times(self):
        history = History(EXAMPLE)
        self.assert_updated(history, EDITS, {"a": 3, "b": 3, "c": 3}, (), 3)
        self.assertEqual(history.plan().times(), {"a": 0, "b": 3, "c": 6})


class ErrorsTest(HistoryCase):
    def test_the_errors_in_their_order(self):
        history = History(EXAMPLE)
        history.update([], {})
        steps = [
            (InvalidEdit, [("drop", "z")]),
            (InconsistentLags, [("lag", "b", "a", -1)]),
            (None, EDITS),
        ]
        for wrong_prices in [True, False]:
            for wrong_hold in [True, False]:
                for firm in [True, False]:
                    for error, edits in steps:
                        prices = {"b": 0} if wrong_prices else {} if firm else {"b": 1}
                        hold = ["z"] if wrong_hold else []
                        if error is None:
                            error = InvalidPrices if wrong_prices else InvalidKept if wrong_hold else NoRepair if firm else None
                        if error is None:
                            self.assertEqual(history.copy().update(edits, prices, hold), 1)
                            continue
                        self.assert_fails(history, error, edits, prices, hold)

    def test_the_values_of_the_errors(self):
        history = History(EXAMPLE)
        self.assertEqual(self.assert_fails(history, InvalidEdit, [*EDITS, None], None, None).index, 2)
        self.assertEqual(self.assert_fails(history, InvalidEdit, None, {}).index, 0)
        error = self.assert_fails(history, InconsistentLags, [("lag", "b", "a", -1)], None, None)
        self.assertEqual(sorted(error.cycle), ["a", "b"])
        self.assertEqual(self.assert_fails(history, NoRepair, EDITS, {"a": 1}).pair, ("b", "c"))
        error = self.assert_fails(history, NoRepair, [("lag", "", "a", 1)], {"b": 1})
        self.assertEqual(error.pair, ("", "a"))

    def test_any_object_as_the_edits(self):
        history = History(EXAMPLE)
        for thing in ANYTHING:
            if not (isinstance(thing, (list, tuple)) and len(thing) == 0):
                self.assert_fails(history, InvalidEdit, thing, {}, [])
                self.assert_fails(history, InvalidEdit, [thing], thing, thing)

    def test_any_object_as_the_prices(self):
        history = History(EXAMPLE)
        for thing in ANYTHING + [{"a": 1000}, {"z": 0}, {"b": True}, {"": 1}]:
            if thing != {}:
                self.assert_fails(history, InvalidPrices, [], thing)
                self.assert_fails(history, InvalidPrices, EDITS, thing, ["z"])

    def test_any_object_as_hold(self):
        history = History(EXAMPLE)
        for thing in ANYTHING + ["a", {"a": 1}, ["a", "a"], ("a", "b", "a"), [""], ["a", ""], ["c"], ["a", "z"]]:
            if thing not in [[], (), ["a"], ("a",), ("a", "b")]:
                self.assert_fails(history, InvalidKept, [], {}, thing)
                self.assert_fails(history, InvalidKept, [("time", "b", 0)], {}, thing)
            if not isinstance(thing, str) or thing not in ("a", "b"):
                self.assert_fails(history, InvalidKept, [], {}, ["a", thing])

    def test_hold_is_of_the_plan_after_the_edits(self):
        history = History(EXAMPLE)
        self.assert_fails(history, InvalidKept, [("drop", "a")], {}, ["a"])
        self.assert_fails(history, InvalidKept, [], {}, ["c"])
        self.assertEqual(history.update([("drop", "a"), ("task", "c", 1)], {}, ["c", "b"]), 0)


class VersionsTest(HistoryCase):
    def made(self):
        history = History(EXAMPLE)
        history.update(EDITS, {"b": 1})
        history.update([("drop", "a"), ("time", "c", 9), ("task", "d", 0)], {})
        history.update([("task", "a", 4), ("time", "b", 3)], {})
        return history

    def test_plan(self):
        history = self.made()
        times = [{"a": 0, "b": 3}, {"a": 0, "b": 2, "c": 5}, {"b": 2, "c": 9, "d": 0}, {"a": 4, "b": 3, "c": 9, "d": 0}]
        self.assertEqual(len(history), 4)
        for version in range(4):
            self.assertEqual(history.plan(version).times(), times[version])
            self.assertEqual(history.plan(version=version).times(), times[version])
            self.assertIs(type(history.plan(version)), Plan)
        for found in [history.plan(), history.plan(None), history.plan(version=None)]:
            self.assertEqual(found.times(), times[3])

    def test_moved_in_both_directions(self):
        history = self.made()
        for first, second, names in [
            (0, 1, ("b",)), (1, 2, ("c",)), (0, 2, ("b",)), (2, 3, ("b",)), (0, 3, ("a",)), (1, 3, ("a", "b", "c")),
        ]:
            self.assertEqual(history.moved(first, second), names)
            self.assertEqual(history.moved(second, first), names)
            self.assertEqual(history.moved(second=first, first=second), names)
            self.assertIs(type(history.moved(first, second)), tuple)
        for version in range(4):
            self.assertEqual(history.moved(version, version), ())

    def test_unknown_versions(self):
        history = self.made()
        for thing in ANYTHING + [4, 5, -1, -4, True, False, "0", [0], (0,), 1.0]:
            if type(thing) is int and 0 <= thing <= 3:
                continue
            with self.subTest(thing=repr(thing)[:40]):
                if thing is not None:
                    with self.assertRaises(UnknownVersion):
                        history.plan(thing)
                for first, second in [(thing, 0), (0, thing), (thing, thing), (3, thing)]:
                    with self.assertRaises(UnknownVersion):
                        history.moved(first, second)

    def test_drawn_moves(self):
        dice = random.Random(211)
        for plan in drawn.draw_plans(212, 30):
            history = History(plan)
            for _ in range(6):
                try:
                    names = history.plan().times()
                    history.update([drawn.draw_edit(dice, history.plan())], dict.fromkeys([*names, *"abcdefgh"], 1))
                except (InvalidEdit, InconsistentLags):
                    continue
            for first in range(len(history)):
                for second in range(len(history)):
                    one, other = history.plan(first).times(), history.plan(second).times()
                    expected = sorted(name for name in one if name in other and one[name] != other[name])
                    self.assertEqual(history.moved(first, second), tuple(expected))


class CopyTest(HistoryCase):
    def test_independent_both_ways(self):
        history = History(EXAMPLE)
        history.update(EDITS, {"b": 1})
        other = history.copy()
        self.assertIs(type(other), History)
        seen = state_of(history)
        self.assertEqual(state_of(other), seen)
        other.update([("time", "a", 9)], {"a": 3, "b": 4, "c": 9}, ["a"])
        self.assertEqual(state_of(history), seen)
        self.assertEqual([len(other), other.spent()], [3, 14])
        there = state_of(other)
        history.update([("drop", "c")], {})
        history.update([("time", "b", 0)], {"b": 7})
        self.assertEqual(state_of(other), there)
        self.assertEqual([len(history), history.spent()], [4, 8])

    def test_a_copy_of_a_copy(self):
        history = History(EXAMPLE)
        copies = [history]
        for price in range(1, 5):
            other = copies[-1].copy().copy()
            other.update([("time", "b", 0)], {"b": price})
            copies.append(other)
        self.assertEqual([len(other) for other in copies], [1, 2, 3, 4, 5])
        self.assertEqual([other.spent() for other in copies], [0, 1, 3, 6, 10])

    def test_a_copy_raises_the_same_errors(self):
        other = History(EXAMPLE).copy()
        self.assert_fails(other, InvalidEdit, [None], {})
        with self.assertRaises(UnknownVersion):
            other.plan(1)


class DrawnTest(HistoryCase):
    def test_drawn_updates(self):
        dice = random.Random(213)
        seen = dict.fromkeys([InvalidEdit, InconsistentLags, NoRepair, "done", "dear"], 0)
        for plan in drawn.draw_plans(214, 80) + [drawn.draw_crowd(dice, 5, 12, 5) for _ in range(40)]:
            history = History(plan)
            for _ in range(8):
                latest = history.plan()
                edits = [drawn.draw_edit(dice, latest) for _ in range(dice.randint(0, 3))]
                prices = drawn.draw_prices(dice, latest)
                try:
                    changed = apply_edits(latest, edits)
                except (InvalidEdit, InconsistentLags) as error:
                    self.assert_fails(history, type(error), edits, prices)
                    seen[type(error)] += 1
                    continue
                hold = dice.sample(list(changed.times()), min(len(changed), dice.choice([0, 0, 1, 2])))
                free = {name: prices[name] for name in prices if name not in hold}
                repairs = drawn.free_repairs(changed, free)
                if not repairs:
                    self.assert_fails(history, NoRepair, edits, prices, hold)
                    seen[NoRepair] += 1
                    continue
                least = min(repairs.values())
                self.assert_updated(history, edits, prices, hold, least)
                kept = lowest(changed, free)[1]
                self.assertEqual(history.plan().times(), earliest(changed, kept))
                seen["dear" if least else "done"] += 1
        self.assertGreater(min(seen.values()), 10, seen)


class ArgumentsTest(HistoryCase):
    def test_arguments_stay_as_they_are_and_may_change_later(self):
        times, lags = {"b": 3, "a": 0}, [("a", "b", 2)]
        history = History(plan=Plan(20, times, lags))
        times["a"] = 7
        lags.clear()
        edits, prices, hold = list(EDITS), {"b": 1, "a": 1}, ["a"]
        history.update(edits, prices, hold)
        self.assertEqual([edits, prices, hold], [EDITS, {"b": 1, "a": 1}, ["a"]])
        self.assertEqual(list(prices), ["b", "a"])
        seen = state_of(history)
        edits.clear()
        prices.clear()
        hold.append("b")
        self.assertEqual(state_of(history), seen)
        self.assertEqual(history.plan(0), EXAMPLE)

    def test_later_changes_to_a_plan_have_no_effect(self):
        plan = Plan(20, {"a": 0, "b": 3}, [("a", "b", 2)])
        history = History(plan)
        plan.horizon = 3
        history.plan().horizon = 2
        history.plan(0).horizon = 1
        history.copy().plan().horizon = 0
        self.assertEqual([history.plan(), history.plan(0), history.copy().plan()], [EXAMPLE] * 3)


if __name__ == "__main__":
    unittest.main()
