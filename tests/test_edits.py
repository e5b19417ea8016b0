"""Tests of retime.edits: edits of plans [27]."""

import random
import unittest

import drawn
from anything import ANYTHING
from retime.edits import apply_edits
from retime.errors import InconsistentLags, InvalidEdit
from retime.plans import Plan, is_name

EXAMPLE = Plan(20, {'a': 0, 'b': 3}, [('a', 'b', 2)])
MILLION = 1000000


def is_number(thing, low, high):
    return type(thing) is int and low <= thing <= high


def is_lag(thing, times):
    """Tell whether a thing is a lag between the origin and the tasks of a dict."""
    first, second, gap = thing
    nodes = ["", *times]
    return first in nodes and second in nodes and first != second and is_number(gap, -MILLION, MILLION)


def plain_edits(plan, edits):
    """Return the times and the lags after edits, or the index of the first one that is none, as [27] says."""
    times, lags = plan.times(), set(plan.lags())
    for index, edit in enumerate(edits):
        if type(edit) is not tuple:
            return index
        match edit:
            case ("task", name, time) if is_name(name) and name not in times and is_number(time, 0, plan.horizon):
                times[name] = time
            case ("drop", str() as name) if name in times:
                del times[name]
                lags = {lag for lag in lags if name not in lag[:2]}
            case ("time", str() as name, time) if name in times and is_number(time, 0, plan.horizon):
                times[name] = time
            case ("lag", *lag) if len(lag) == 3 and is_lag(lag, times) and tuple(lag) not in lags:
                lags.add(tuple(lag))
            case ("unlag", *lag) if len(lag) == 3 and is_lag(lag, times) and tuple(lag) in lags:
                lags.remove(tuple(lag))
            case _:
                return index
    return times, lags


class EditsCase(unittest.TestCase):
    def assert_changed(self, plan, edits, times, lags):
        """Check the plan after a list and a tuple of edits."""
        seen = drawn.state_of(plan)
        for some in [list(edits), tuple(edits)]:
            found = apply_edits(plan, some)
            self.assertIs(type(found), Plan)
            self.assertEqual(drawn.state_of(found), (plan.horizon, sorted(times.items()), tuple(sorted(lags))))
            self.assertEqual(some, type(some)(edits))
        self.assertEqual(drawn.state_of(plan), seen)

    def assert_invalid(self, plan, edits, index):
        with self.subTest(edits=repr(edits)[:80]), self.assertRaises(InvalidEdit) as caught:
            apply_edits(plan, edits)
        self.assertIs(type(caught.exception.index), int)
        self.assertEqual(caught.exception.index, index)

    def assert_no_edit(self, plan, edit):
        """Check that the plan cannot take an edit, whatever stands around it."""
        self.assert_invalid(plan, [edit], 0)
        self.assert_invalid(plan, (edit,), 0)
        self.assert_invalid(plan, [("task", "y", 0), ("drop", "y"), edit], 2)
        self.assert_invalid(plan, (("task", "y", 0), edit, ("drop", "nothing"), None), 1)


class ExamplesTest(EditsCase):
    def test_the_examples(self):
        changed = apply_edits(EXAMPLE, [('task', 'c', 5), ('lag', 'b', 'c', 3), ('time', 'a', 1)])
        self.assertEqual(
            [changed.times(), changed.lags()], [{'a': 1, 'b': 3, 'c': 5}, (('a', 'b', 2), ('b', 'c', 3))]
        )
        self.assert_invalid(EXAMPLE, [('drop', 'a'), ('lag', 'a', 'b', 1)], 1)

    def test_no_edits(self):
        for plan in [EXAMPLE, Plan(0, {}), drawn.row_of_thirty()]:
            self.assert_changed(plan, [], plan.times(), plan.lags())

    def test_task(self):
        for time in [0, 7, 20]:
            self.assert_changed(EXAMPLE, [("task", "c", time)], {"a": 0, "b": 3, "c": time}, [("a", "b", 2)])
        self.assert_changed(EXAMPLE, [("task", "aa", 1)], {"a": 0, "aa": 1, "b": 3}, [("a", "b", 2)])
        self.assert_changed(Plan(0, {}), [("task", "abcdefgh", 0)], {"abcdefgh": 0}, [])

    def test_drop_removes_all_lags_of_the_task(self):
        times = {"a": 0, "b": 3, "c": 5, "aa": 1}
        lags = [("a", "b", 2), ("b", "a", -9), ("", "a", 0), ("a", "", -9), ("a", "b", 1), ("aa", "a", 0)]
        rest = [("b", "c", 3), ("", "b", 1), ("c", "", -9), ("aa", "b", 0), ("b", "aa", -5)]
        plan = Plan(20, times, lags + rest)
        self.assert_changed(plan, [("drop", "a")], {"b": 3, "c": 5, "aa": 1}, rest)
        self.assert_changed(plan, [("drop", name) for name in ["a", "aa", "c"]], {"b": 3}, [("", "b", 1)])
        self.assert_changed(plan, [("drop", name) for name in times], {}, [])

    def test_a_task_that_is_added_again_has_no_lags(self):
        self.assert_changed(EXAMPLE, [("drop", "a"), ("task", "a", 0)], {"a": 0, "b": 3}, [])
        self.assert_changed(EXAMPLE, [("task", "c", 1), ("drop", "c"), ("task", "c", 2)], {"a": 0, "b": 3, "c": 2}, [("a", "b", 2)])

    def test_time(self):
        for time in [0, 7, 20]:
            self.assert_changed(EXAMPLE, [("time", "b", time)], {"a": 0, "b": time}, [("a", "b", 2)])
        self.assert_changed(EXAMPLE, [("time", "b", 3)], {"a": 0, "b": 3}, [("a", "b", 2)])
        self.assert_changed(EXAMPLE, [("time", "b", 9), ("time", "b", 4)], {"a": 0, "b": 4}, [("a", "b", 2)])
        self.assert_changed(EXAMPLE, [("task", "c", 9), ("time", "c", 4)], {"a": 0, "b": 3, "c": 4}, [("a", "b", 2)])

    def test_lag(self):
        for lag in [("a", "b", 1), ("a", "b", 20), ("b", "a", -2), ("", "a", 5), ("b", "", -7)]:
            self.assert_changed(EXAMPLE, [("lag", *lag)], {"a": 0, "b": 3}, [("a", "b", 2), lag])
        plan = Plan(MILLION, {"a": 0, "b": 0})
        for gap in [MILLION, -MILLION]:
            self.assert_changed(plan, [("lag", "a", "b", gap)], {"a": 0, "b": 0}, [("a", "b", gap)])

    def test_a_lag_equal_to_an_implicit_one(self):
        for lag in [("", "a", 0), ("a", "", -20)]:
            self.assert_changed(EXAMPLE, [("lag", *lag)], {"a": 0, "b": 3}, [("a", "b", 2), lag])
            self.assert_no_edit(EXAMPLE, ("unlag", *lag))
            self.assert_no_edit(apply_edits(EXAMPLE, [("lag", *lag)]), ("lag", *lag))
            self.assert_changed(EXAMPLE, [("lag", *lag), ("unlag", *lag)], {"a": 0, "b": 3}, [("a", "b", 2)])

    def test_unlag(self):
        plan = Plan(20, {"a": 0, "b": 3}, [("a", "b", 2), ("a", "b", 1), ("b", "a", -9)])
        self.assert_changed(plan, [("unlag", "a", "b", 2)], {"a": 0, "b": 3}, [("a", "b", 1), ("b", "a", -9)])
        self.assert_changed(plan, [("unlag", "a", "b", 1)], {"a": 0, "b": 3}, [("a", "b", 2), ("b", "a", -9)])
        self.assert_changed(plan, [("unlag", *lag) for lag in plan.lags()], {"a": 0, "b": 3}, [])
        self.assert_changed(plan, [("unlag", "a", "b", 1), ("lag", "a", "b", 1)], {"a": 0, "b": 3}, plan.lags())

    def test_violated_lags_stay_violated(self):
        self.assert_changed(EXAMPLE, [("time", "b", 0)], {"a": 0, "b": 0}, [("a", "b", 2)])

    def test_the_same_edit_twice(self):
        for edit in [("task", "c", 1), ("drop", "a"), ("lag", "a", "b", 5), ("unlag", "a", "b", 2)]:
            self.assert_invalid(EXAMPLE, [edit, edit], 1)


class InconsistentTest(EditsCase):
    def assert_inconsistent(self, plan, edits, nodes):
        with self.assertRaises(InconsistentLags) as caught:
            apply_edits(plan, edits)
        self.assertEqual(sorted(caught.exception.cycle), nodes)

    def test_inconsistent_at_the_end(self):
        self.assert_inconsistent(EXAMPLE, [("lag", "b", "a", -1)], ["a", "b"])
        self.assert_inconsistent(EXAMPLE, [("task", "c", 0), ("lag", "b", "a", -1), ("drop", "c")], ["a", "b"])
        self.assert_inconsistent(EXAMPLE, [("lag", "", "a", 21)], ["", "a"])
        self.assert_inconsistent(EXAMPLE, [("lag", "", "a", 19)], ["", "a", "b"])

    def test_inconsistent_in_between_only(self):
        lag = ("lag", "b", "a", -1)
        self.assert_changed(EXAMPLE, [lag, ("unlag", "b", "a", -1)], {"a": 0, "b": 3}, [("a", "b", 2)])
        self.assert_changed(EXAMPLE, [lag, ("unlag", "a", "b", 2)], {"a": 0, "b": 3}, [("b", "a", -1)])
        self.assert_changed(EXAMPLE, [lag, ("drop", "a")], {"b": 3}, [])
        self.assert_changed(EXAMPLE, [("lag", "a", "b", 21), ("unlag", "a", "b", 21)], {"a": 0, "b": 3}, [("a", "b", 2)])

    def test_an_invalid_edit_goes_ahead(self):
        lag = ("lag", "b", "a", -1)
        for edit in [None, ("drop", "c"), lag, ("task", "a", 0), ("lag", "a", "b", 2), ("time", "a", 21)]:
            self.assert_invalid(EXAMPLE, [lag, edit], 1)
            self.assert_invalid(EXAMPLE, [lag, ("time", "a", 1), edit, ("unlag", "b", "a", -1)], 2)


class InvalidEditTest(EditsCase):
    def test_no_list_or_tuple(self):
        for thing in ANYTHING + [{("drop", "a"): 1}, "drop a", b"", {"drop": "a"}]:
            if not isinstance(thing, (list, tuple)):
                self.assert_invalid(EXAMPLE, thing, 0)
            elif len(thing) > 0:
                self.assert_invalid(EXAMPLE, thing, 0)

    def test_any_object_as_an_edit(self):
        for thing in ANYTHING + ["drop", ["drop", "a"], ("drop",), (("drop", "a"),), {"drop": "a"}]:
            self.assert_no_edit(EXAMPLE, thing)

    def test_any_object_as_the_word(self):
        for thing in ANYTHING + ["Task", "task ", "add", "times", "lags", "", b"drop", ["drop"], ("drop",)]:
            for rest in [(), ("a",), ("c", 1), ("a", "b", 1), ("a", "b", 2)]:
                self.assert_no_edit(EXAMPLE, (thing, *rest))

    def test_another_length(self):
        for edit in [("task", "c", 1), ("drop", "a"), ("time", "a", 1), ("lag", "a", "b", 1), ("unlag", "a", "b", 2)]:
            apply_edits(EXAMPLE, [edit])
            self.assert_no_edit(EXAMPLE, edit[:-1])
            self.assert_no_edit(EXAMPLE, edit[:1])
            for more in [None, 1, "a", 20, ()]:
                self.assert_no_edit(EXAMPLE, (*edit, more))
            self.assert_no_edit(EXAMPLE, list(edit))

    def test_any_object_as_the_name(self):
        for thing in ANYTHING + ["A", "a ", "abcdefghi", "", "-", ["a"], {"a": 0}, b"a", True]:
            if not (isinstance(thing, str) and is_name(thing)):
                self.assert_no_edit(EXAMPLE, ("task", thing, 1))
            if not (isinstance(thing, str) and thing in ("a", "b")):
                self.assert_no_edit(EXAMPLE, ("drop", thing))
                self.assert_no_edit(EXAMPLE, ("time", thing, 1))
        for name in ["a", "b"]:
            self.assert_no_edit(EXAMPLE, ("task", name, 1))

    def test_any_object_as_the_time(self):
        for thing in ANYTHING + [21, -1, True, False, 1.0, "1"]:
            if not is_number(thing, 0, 20):
                self.assert_no_edit(EXAMPLE, ("task", "c", thing))
                self.assert_no_edit(EXAMPLE, ("time", "a", thing))
        self.assert_no_edit(Plan(0, {"a": 0}), ("time", "a", 1))

    def test_any_object_as_a_node(self):
        plan = Plan(20, {"a": 0, "b": 3}, [("a", "b", 1), ("", "b", 1), ("a", "", -9)])
        for thing in ANYTHING + ["c", "-", "A", ["a"], b"a", True]:
            if not (isinstance(thing, str) and thing in ("", "a", "b")):
                for word in ["lag", "unlag"]:
                    self.assert_no_edit(plan, (word, thing, "b", 1))
                    self.assert_no_edit(plan, (word, "a", thing, 1))
                    self.assert_no_edit(plan, (word, thing, thing, 1))
        for node in ["a", "", "b"]:
            for word in ["lag", "unlag"]:
                self.assert_no_edit(plan, (word, node, node, 0))

    def test_any_object_as_the_gap(self):
        plan = Plan(MILLION, {"a": 0, "b": 3}, [("a", "b", 1), ("a", "b", 0)])
        for thing in ANYTHING + [MILLION + 1, -MILLION - 1, 1.0, 0.0, "1"]:
            if not is_number(thing, -MILLION, MILLION):
                for word in ["lag", "unlag"]:
                    self.assert_no_edit(plan, (word, "a", "b", thing))
                    self.assert_no_edit(plan, (word, "b", "a", thing))

    def test_bools_are_no_numbers(self):
        plan = Plan(20, {"a": 0, "b": 3}, [("a", "b", 1), ("a", "b", 0)])
        for flag in [True, False]:
            for edit in [("lag", "b", "a", flag), ("unlag", "a", "b", flag), ("task", "c", flag), ("time", "a", flag)]:
                self.assert_no_edit(plan, edit)

    def test_lags_that_are_there_and_that_are_not(self):
        self.assert_no_edit(EXAMPLE, ("lag", "a", "b", 2))
        for lag in [("a", "b", 1), ("b", "a", 2), ("a", "b", 3), ("a", "", 2), ("", "b", 2)]:
            self.assert_no_edit(EXAMPLE, ("unlag", *lag))

    def test_the_first_wrong_edit_counts(self):
        good = [("task", "c", 1), ("time", "c", 2), ("lag", "a", "c", 1), ("unlag", "a", "b", 2), ("drop", "a")]
        for at in range(len(good) + 1):
            self.assert_invalid(EXAMPLE, good[:at] + [("time", "z", 0)] + good[at:], at)
            self.assert_invalid(EXAMPLE, good[:at] + [None] + good[at:] + [None], at)

    def test_many_edits(self):
        edits = [("time", "a", at % 21) for at in range(900)]
        self.assert_changed(EXAMPLE, edits, {"a": 899 % 21, "b": 3}, [("a", "b", 2)])
        self.assert_invalid(EXAMPLE, edits + [("time", "a", 21)], 900)


class DrawnTest(EditsCase):
    def test_drawn_sequences(self):
        dice = random.Random(201)
        seen = {"plan": 0, "index": 0, "cycle": 0}
        for plan in drawn.draw_plans(202, 150, most_tasks=5, most_time=6, most_lags=6):
            for _ in range(16):
                edits = [drawn.draw_edit(dice, plan) for _ in range(dice.choice([1, 1, 2, 3, 5, 8]))]
                found = plain_edits(plan, edits)
                if isinstance(found, int):
                    self.assert_invalid(plan, edits, found)
                    seen["index"] += 1
                    continue
                try:
                    Plan(plan.horizon, found[0], list(found[1]))
                except InconsistentLags:
                    seen["cycle"] += 1
                    with self.assertRaises(InconsistentLags):
                        apply_edits(plan, edits)
                    continue
                seen["plan"] += 1
                self.assert_changed(plan, edits, *found)
        self.assertGreater(min(seen.values()), 20)

    def test_one_after_the_other(self):
        dice = random.Random(203)
        applied = 0
        for plan in drawn.draw_plans(204, 60):
            edits, latest = [], plan
            for _ in range(12):
                edit = drawn.draw_edit(dice, latest)
                try:
                    latest = apply_edits(latest, [edit])
                    edits.append(edit)
                except (InvalidEdit, InconsistentLags):
                    continue
            self.assertEqual(apply_edits(plan, edits), latest)
            applied += len(edits)
        self.assertGreater(applied, 200)


class ArgumentsTest(EditsCase):
    def test_by_name(self):
        found = apply_edits(edits=[("drop", "a")], plan=EXAMPLE)
        self.assertEqual(found, Plan(20, {"b": 3}))

    def test_a_new_plan(self):
        for edits in [[], [("time", "a", 0)]]:
            found = apply_edits(EXAMPLE, edits)
            self.assertEqual(found, EXAMPLE)
            self.assertIsNot(found, EXAMPLE)

    def test_the_list_may_change_later(self):
        edits = [("time", "a", 5)]
        found = apply_edits(EXAMPLE, edits)
        edits.append(("drop", "b"))
        edits[0] = ("drop", "a")
        self.assertEqual(found.times(), {"a": 5, "b": 3})

    def test_arguments_stay_as_they_are(self):
        seen = drawn.state_of(EXAMPLE)
        for edits in [[("drop", "a"), ("task", "a", 1)], [("drop", "a"), None], [("lag", "b", "a", -1)], [["drop", "a"]]]:
            again = list(edits)
            try:
                apply_edits(EXAMPLE, edits)
            except (InvalidEdit, InconsistentLags):
                pass
            self.assertEqual(edits, again)
            self.assertEqual(drawn.state_of(EXAMPLE), seen)


if __name__ == "__main__":
    unittest.main()
