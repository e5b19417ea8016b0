"""Tests of retime.registry: plans by name, with prices, marks and a log of the commands [29], [30]."""

import random
import unittest

import drawn
from anything import ANYTHING
from retime.conflicts import conflicts
from retime.edits import apply_edits
from retime.errors import (
    DuplicateName, InconsistentLags, InvalidCommand, InvalidEdit, InvalidKept, InvalidName, InvalidPlan,
    InvalidPrices, NoRepair, RetimeError, UnknownMark, UnknownName,
)
from retime.history import History
from retime.plans import Plan, is_name
from retime.registry import Registry

TASKS = [('task', 'a', 0), ('task', 'b', 3), ('lag', 'a', 'b', 2)]
COUNTS = {"create": 2, "price": 3, "update": 3, "remove": 1, "mark": 1, "back": 1}
WRONG_NAMES = ANYTHING + ["", "A", "a b", "abcdefghi", "-", ["main"], ("main",), {"main": 1}, b"main", "a1"]


def state_of(registry):
    """Return all that can be seen of a registry except the log."""
    names = registry.names()
    return [
        (name, drawn.state_of(registry.plan(name)), list(registry.prices(name).items()), registry.spent(name))
        for name in names
    ]


def example():
    """Return the registry of the document's example."""
    registry = Registry()
    registry.create("main", 20)
    registry.update("main", TASKS, [])
    registry.price("main", "b", 4)
    registry.update("main", [("lag", "a", "b", 7)], [])
    return registry


class RegistryCase(unittest.TestCase):
    def assert_fails(self, registry, error, word, *arguments):
        """Check that a command raises an error and changes nothing but the log; return the error."""
        seen, log = state_of(registry), registry.log()
        with self.subTest(word=word, arguments=repr(arguments)[:80]), self.assertRaises(error) as caught:
            getattr(registry, word)(*arguments)
        self.assertIs(type(caught.exception), error)
        self.assertEqual(state_of(registry), seen)
        self.assertEqual(registry.log(), log + [word, "failed"])
        return caught.exception

    def assert_done(self, registry, result, word, *arguments):
        """Check the result of a command and its log entries."""
        log = registry.log()
        found = getattr(registry, word)(*arguments)
        self.assertEqual(found, result)
        self.assertIs(type(found), type(result))
        self.assertEqual(registry.log(), log + [word, "done"])

    def assert_batch_fails(self, registry, error, commands, entries):
        """Check that a batch raises an error, changes nothing, and leaves some entries in the log."""
        seen, log = state_of(registry), registry.log()
        with self.subTest(commands=repr(commands)[:80]), self.assertRaises(error) as caught:
            registry.batch(commands)
        self.assertIs(type(caught.exception), error)
        self.assertEqual(state_of(registry), seen)
        self.assertEqual(registry.log(), log + ["batch", *entries, "failed"])
        return caught.exception


class ExampleTest(RegistryCase):
    def test_the_example(self):
        registry = Registry()
        registry.create('main', 20)
        self.assertEqual(registry.update('main', TASKS, []), 0)
        registry.price('main', 'b', 4)
        self.assertEqual(registry.update('main', [('lag', 'a', 'b', 7)], []), 4)
        self.assertEqual(registry.plan('main').times(), {'a': 0, 'b': 7})
        self.assertEqual(registry.log(), ['create', 'done', 'update', 'done', 'price', 'done', 'update', 'done'])
        self.assertEqual([registry.names(), registry.prices("main"), registry.spent("main")], [["main"], {"b": 4}, 4])

    def test_an_empty_registry(self):
        registry = Registry()
        self.assertEqual([registry.names(), registry.log()], [[], []])
        for query in [registry.plan, registry.prices, registry.spent]:
            with self.assertRaises(UnknownName):
                query("main")


class CreateTest(RegistryCase):
    def test_plans_without_tasks(self):
        registry = Registry()
        for name, horizon in [("b", 0), ("abcdefgh", 1000000), ("a", 20)]:
            self.assert_done(registry, None, "create", name, horizon)
            self.assertEqual(registry.plan(name), Plan(horizon, {}))
            self.assertEqual([registry.prices(name), registry.spent(name)], [{}, 0])
        self.assertEqual(registry.names(), ["a", "abcdefgh", "b"])

    def test_invalid_names(self):
        registry = example()
        for thing in WRONG_NAMES:
            if not (isinstance(thing, str) and is_name(thing)):
                self.assert_fails(registry, InvalidName, "create", thing, 20)
                self.assert_fails(registry, InvalidName, "create", thing, None)

    def test_duplicate_names(self):
        registry = example()
        for horizon in [20, 0, -1, None, []]:
            self.assert_fails(registry, DuplicateName, "create", "main", horizon)

    def test_invalid_horizons(self):
        registry = example()
        for thing in ANYTHING + [-1, 1000001, True, False, 1.0]:
            if not (type(thing) is int and 0 <= thing <= 1000000):
                self.assert_fails(registry, InvalidPlan, "create", "more", thing)
        self.assert_done(registry, None, "create", "more", 0)

    def test_a_label_and_a_plan_may_have_one_name(self):
        registry = Registry()
        registry.mark("main")
        registry.create("main", 20)
        registry.mark("other")
        registry.create("other", 5)
        self.assertEqual(registry.names(), ["main", "other"])
        registry.back("main")
        self.assertEqual(registry.names(), [])


class PriceTest(RegistryCase):
    def test_set_change_and_make_firm(self):
        registry = example()
        for amount in [1, 999, 5]:
            self.assert_done(registry, None, "price", "main", "a", amount)
            self.assertEqual(registry.prices("main"), {"a": amount, "b": 4})
        self.assert_done(registry, None, "price", "main", "b", None)
        self.assertEqual(registry.prices("main"), {"a": 5})
        self.assert_done(registry, None, "price", "main", "b", None)
        self.assertEqual(registry.prices("main"), {"a": 5})
        self.assert_done(registry, None, "price", "main", "a", None)
        self.assertEqual(registry.prices("main"), {})

    def test_each_plan_has_its_own_prices(self):
        registry = example()
        registry.create("more", 9)
        registry.update("more", TASKS, [])
        registry.price("more", "b", 9)
        registry.price("main", "b", 3)
        self.assertEqual([registry.prices("main"), registry.prices("more")], [{"b": 3}, {"b": 9}])

    def test_unknown_plans_and_tasks(self):
        registry = example()
        for thing in WRONG_NAMES + ["more", "a", "mai"]:
            for task, amount in [("a", 1), ("z", 1), (None, 0), ([], [])]:
                self.assert_fails(registry, UnknownName, "price", thing, task, amount)
        for thing in WRONG_NAMES + ["c", "main", "aa"]:
            if thing != "a":
                for amount in [1, None, 0, 1000, []]:
                    self.assert_fails(registry, UnknownName, "price", "main", thing, amount)

    def test_invalid_amounts(self):
        registry = example()
        for thing in ANYTHING + [0, 1000, -1, True, False, 1.0, "1", "firm"]:
            if thing is not None and not (type(thing) is int and 1 <= thing <= 999):
                self.assert_fails(registry, InvalidPrices, "price", "main", "a", thing)
                self.assert_fails(registry, InvalidPrices, "price", "main", "b", thing)


class UpdateTest(RegistryCase):
    def test_a_repair_with_the_prices_of_the_plan(self):
        registry = example()
        self.assert_fails(registry, NoRepair, "update", "main", [("time", "a", 1)], ["b"])
        self.assert_done(registry, 4, "update", "main", [("time", "a", 1)], [])
        self.assertEqual([registry.plan("main").times(), registry.spent("main")], [{"a": 1, "b": 8}, 8])
        registry.price("main", "a", 3)
        self.assert_done(registry, 3, "update", "main", [("time", "a", 9)], [])
        self.assertEqual(registry.plan("main").times(), {"a": 0, "b": 8})
        self.assert_done(registry, 4, "update", "main", [("time", "a", 9)], ("a",))
        self.assertEqual([registry.plan("main").times(), registry.spent("main")], [{"a": 9, "b": 16}, 15])
        self.assertEqual(registry.prices("main"), {"a": 3, "b": 4})

    def test_the_errors_in_their_order(self):
        registry = example()
        cases = [(InvalidEdit, None), (InvalidEdit, [("drop", "z")]), (InconsistentLags, [("lag", "b", "a", -1)])]
        for error, edits in cases:
            for hold in [[], ["z"], None]:
                self.assert_fails(registry, UnknownName, "update", "more", edits, hold)
                self.assert_fails(registry, error, "update", "main", edits, hold)
        for hold in [["z"], None, ["a", "a"], "a"]:
            self.assert_fails(registry, InvalidKept, "update", "main", [], hold)
            self.assert_fails(registry, InvalidKept, "update", "main", [("time", "b", 0), ("drop", "a")], hold)
        error = self.assert_fails(registry, NoRepair, "update", "main", [("time", "b", 0)], ["b"])
        self.assertEqual(error.pair, ("", "b"))
        self.assertEqual(self.assert_fails(registry, InvalidEdit, "update", "main", [("drop", "a"), 0], []).index, 1)
        error = self.assert_fails(registry, InconsistentLags, "update", "main", [("lag", "b", "a", -1)], [])
        self.assertEqual(sorted(error.cycle), ["a", "b"])

    def test_any_object(self):
        registry = example()
        for thing in WRONG_NAMES + ["more", "mai"]:
            self.assert_fails(registry, UnknownName, "update", thing, [], [])
            self.assert_fails(registry, UnknownName, "update", thing, thing, thing)
        for thing in ANYTHING:
            if thing not in ([], ()):
                self.assert_fails(registry, InvalidEdit, "update", "main", thing, [])
            if thing not in ([], (), ["a"], ("a",), ("a", "b")):
                self.assert_fails(registry, InvalidKept, "update", "main", [], thing)
            if thing not in ("a", "b"):
                self.assert_fails(registry, InvalidKept, "update", "main", [], [thing])

    def test_prices_of_dropped_tasks_are_forgotten(self):
        registry = example()
        self.assert_done(registry, 0, "update", "main", [("drop", "b")], [])
        self.assertEqual(registry.prices("main"), {})
        registry.update("main", [("task", "b", 3)], [])
        self.assertEqual(registry.prices("main"), {})

    def test_also_if_the_same_update_adds_the_task_again(self):
        registry = example()
        edits = [("drop", "b"), ("task", "b", 3)]
        self.assert_done(registry, 0, "update", "main", edits, [])
        self.assertEqual([registry.prices("main"), registry.plan("main").times()], [{}, {"a": 0, "b": 3}])

    def test_they_are_forgotten_before_the_repair(self):
        registry = example()
        edits = [("drop", "b"), ("task", "b", 3), ("lag", "a", "b", 5)]
        error = self.assert_fails(registry, NoRepair, "update", "main", edits, [])
        self.assertEqual(error.pair, ("", "b"))
        self.assertEqual(registry.prices("main"), {"b": 4})
        registry.price("main", "a", 9)
        registry.update("main", [("time", "a", 5), ("unlag", "a", "b", 7)], ["a"])
        # With its old price b would be cheaper to change than a.
        edits = [("drop", "b"), ("task", "b", 9), ("lag", "a", "b", 5)]
        self.assert_done(registry, 9, "update", "main", edits, [])
        self.assertEqual([registry.prices("main"), registry.plan("main").times()], [{"a": 9}, {"a": 0, "b": 9}])

    def test_they_are_not_forgotten_if_the_update_fails(self):
        registry = example()
        for error, edits, hold in [
            (InvalidEdit, [("drop", "b"), None], []), (InvalidKept, [("drop", "b")], ["b"]),
            (InconsistentLags, [("drop", "b"), ("lag", "", "a", 21)], []), (NoRepair, [("drop", "b"), ("lag", "", "a", 1)], []),
        ]:
            self.assert_fails(registry, error, "update", "main", edits, hold)
            self.assertEqual(registry.prices("main"), {"b": 4})
        self.assert_done(registry, 4, "update", "main", [("lag", "a", "b", 8)], [])

    def test_other_prices_stay(self):
        registry = example()
        registry.price("main", "a", 7)
        registry.update("main", [("task", "c", 1), ("drop", "b")], [])
        self.assertEqual(registry.prices("main"), {"a": 7})

    def test_drawn_updates_as_in_a_history(self):
        dice = random.Random(221)
        seen = {True: 0, False: 0}
        for plan in drawn.draw_plans(222, 60) + [drawn.draw_crowd(dice, 5, 12, 5) for _ in range(40)]:
            registry = Registry()
            registry.create("main", plan.horizon)
            tasks = [("task", name, time) for name, time in plan.times().items()]
            registry.update("main", tasks, [])
            prices, history = {}, History(registry.plan("main"))
            for name in plan.times():
                prices[name] = dice.randint(1, 9)
                registry.price("main", name, prices[name])
            lags = [("lag", *lag) for lag in plan.lags()]
            for edits in [lags] + [None] * 6:
                edits = edits or [drawn.draw_edit(dice, history.plan()) for _ in range(dice.randint(1, 3))]
                self.assert_as_in(history, registry, edits, prices, seen)
            self.assertEqual(registry.spent("main"), history.spent())
        self.assertGreater(min(seen.values()), 30)

    def assert_as_in(self, history, registry, edits, prices, seen):
        dropped = [edit[1] for edit in edits if edit[0] == "drop"]
        left = {name: prices[name] for name in prices if name not in dropped}
        try:
            price = history.update(edits, left, [])
        except RetimeError as error:
            seen[False] += 1
            self.assert_fails(registry, type(error), "update", "main", edits, [])
            return
        seen[True] += 1
        self.assert_done(registry, price, "update", "main", edits, [])
        for name in dropped:
            prices.pop(name, None)
        self.assertEqual([registry.plan("main"), registry.prices("main")], [history.plan(), prices])
        self.assertEqual(conflicts(registry.plan("main")), ())


class RemoveTest(RegistryCase):
    def test_remove_and_create_again(self):
        registry = example()
        registry.create("more", 9)
        self.assert_done(registry, None, "remove", "main")
        self.assertEqual(registry.names(), ["more"])
        self.assert_fails(registry, UnknownName, "remove", "main")
        for query in [registry.plan, registry.prices, registry.spent]:
            with self.assertRaises(UnknownName):
                query("main")
        self.assert_done(registry, None, "create", "main", 7)
        self.assertEqual(registry.plan("main"), Plan(7, {}))
        self.assertEqual([registry.prices("main"), registry.spent("main")], [{}, 0])

    def test_any_object(self):
        registry = example()
        registry.mark("more")
        for thing in WRONG_NAMES + ["more", "mai"]:
            self.assert_fails(registry, UnknownName, "remove", thing)


class MarkTest(RegistryCase):
    def test_a_mark_keeps_plans_prices_and_amounts(self):
        registry = example()
        seen = state_of(registry)
        self.assert_done(registry, None, "mark", "one")
        registry.price("main", "a", 9)
        registry.price("main", "b", 5)
        registry.update("main", [("time", "a", 3), ("task", "c", 9)], ["a"])
        registry.create("more", 9)
        self.assert_done(registry, None, "back", "one")
        self.assertEqual(state_of(registry), seen)
        registry.remove("main")
        self.assert_done(registry, None, "back", "one")
        self.assertEqual(state_of(registry), seen)

    def test_changes_after_back_do_not_change_the_mark(self):
        registry = example()
        seen = state_of(registry)
        registry.mark("one")
        for step in range(3):
            registry.price("main", "a", 1 + step)
            registry.update("main", [("task", "c", step), ("time", "a", 1)], [])
            registry.create("more", step)
            self.assert_done(registry, None, "back", "one")
            self.assertEqual(state_of(registry), seen)

    def test_marks_stay(self):
        registry = example()
        states = {}
        for label in ["one", "two", "three"]:
            registry.mark(label)
            states[label] = state_of(registry)
            registry.create(label, 9)
            registry.update("main", [("time", "a", len(states))], ["a"])
        for label in ["one", "three", "two", "two", "three", "one"]:
            registry.back(label)
            self.assertEqual(state_of(registry), states[label])
            for other in states:
                self.assert_fails(registry, DuplicateName, "mark", other)

    def test_a_mark_of_an_empty_registry(self):
        registry = Registry()
        registry.mark("start")
        registry.create("main", 9)
        registry.back("start")
        self.assertEqual([registry.names(), registry.log()], [[], ["mark", "done", "create", "done", "back", "done"]])

    def test_invalid_labels(self):
        registry = example()
        for thing in WRONG_NAMES:
            if not (isinstance(thing, str) and is_name(thing)):
                self.assert_fails(registry, InvalidName, "mark", thing)
        registry.mark("one")
        self.assert_fails(registry, DuplicateName, "mark", "one")
        self.assert_done(registry, None, "mark", "main")

    def test_unknown_marks(self):
        registry = example()
        registry.mark("one")
        for thing in WRONG_NAMES + ["main", "on", "two", ["one"], ("one",)]:
            self.assert_fails(registry, UnknownMark, "back", thing)


class BatchTest(RegistryCase):
    def test_results_in_order(self):
        registry = Registry()
        commands = [
            ("create", "main", 20), ("update", "main", TASKS, []), ("price", "main", "b", 4), ("mark", "one"),
            ("update", "main", [("lag", "a", "b", 7)], ()), ("create", "more", 5), ("remove", "more"),
        ]
        found = registry.batch(commands)
        self.assertEqual(found, [None, 0, None, None, 4, None, None])
        entries = [word for command in commands for word in [command[0], "done"]]
        self.assertEqual(registry.log(), ["batch", *entries, "done"])
        self.assertEqual(state_of(registry), state_of(example()))
        self.assertEqual(registry.batch([("back", "one"), ("update", "main", [], [])]), [None, 0])
        self.assertEqual(registry.spent("main"), 0)

    def test_an_empty_batch(self):
        registry = Registry()
        self.assertEqual(registry.batch([]), [])
        self.assertEqual(registry.log(), ["batch", "done"])

    def test_a_failed_command_undoes_all_but_the_log(self):
        good = [
            ("price", "main", "b", None), ("update", "main", [("time", "a", 0)], []), ("create", "more", 9),
            ("mark", "one"), ("remove", "main"), ("back", "one"), ("remove", "more"),
        ]
        bad = [
            (InvalidName, ("create", "", 9)), (InvalidPlan, ("create", "other", -1)), (UnknownName, ("remove", "z")),
            (UnknownMark, ("back", "none")), (UnknownName, ("price", "z", "a", 1)), (InvalidName, ("mark", "-")),
            (UnknownName, ("update", "z", [], [])),
        ]
        for at in range(len(good) + 1):
            for error, command in bad:
                registry = example()
                entries = [word for done in good[:at] for word in [done[0], "done"]] + [command[0], "failed"]
                self.assert_batch_fails(registry, error, good[:at] + [command] + good[at:], entries)
                self.assert_fails(registry, UnknownMark, "back", "one")
                self.assert_done(registry, None, "mark", "one")

    def test_the_value_of_the_error(self):
        registry = example()
        command = ("update", "main", [("drop", "b"), None], [])
        error = self.assert_batch_fails(registry, InvalidEdit, [command], ["update", "failed"])
        self.assertEqual(error.index, 1)
        command = ("update", "main", [("lag", "", "a", 3)], [])
        error = self.assert_batch_fails(registry, NoRepair, [("mark", "one"), command], ["mark", "done", "update", "failed"])
        self.assertEqual(error.pair, ("", "a"))

    def test_marks_of_a_failed_batch_are_gone_and_older_ones_stay(self):
        registry = example()
        registry.mark("old")
        seen = state_of(registry)
        commands = [("mark", "new"), ("remove", "main"), ("mark", "newer"), ("remove", "main")]
        self.assert_batch_fails(registry, UnknownName, commands, ["mark", "done", "remove", "done", "mark", "done", "remove", "failed"])
        for label in ["new", "newer"]:
            self.assert_fails(registry, UnknownMark, "back", label)
        registry.remove("main")
        registry.back("old")
        self.assertEqual(state_of(registry), seen)

    def test_no_list(self):
        registry = example()
        for thing in ANYTHING + [(("mark", "one"),), {("mark", "one"): 1}, ("mark", "one"), "mark one"]:
            if not isinstance(thing, list):
                self.assert_batch_fails(registry, InvalidCommand, thing, [])

    def test_any_object_as_an_item(self):
        registry = example()
        for thing in ANYTHING + ["mark", ["mark", "one"], (("mark", "one"),), ("mark",), {"mark": "one"}]:
            self.assert_batch_fails(registry, InvalidCommand, [thing], [])
            self.assert_batch_fails(registry, InvalidCommand, [("mark", "one"), thing, ("mark", "one")], ["mark", "done"])

    def test_any_object_as_the_word(self):
        registry = example()
        for thing in ANYTHING + ["batch", "names", "plan", "prices", "spent", "log", "copy", "Create", "mark ", ["mark"], "drop"]:
            for rest in [(), ("main",), ("main", 9), ("main", [], []), ([],), ([("mark", "one")],)]:
                self.assert_batch_fails(registry, InvalidCommand, [(thing, *rest)], [])
                self.assert_batch_fails(registry, InvalidCommand, [("mark", "one"), (thing, *rest)], ["mark", "done"])

    def test_too_few_or_too_many_arguments(self):
        registry = example()
        for word, count in COUNTS.items():
            for many in range(6):
                for argument in ["main", None, [], "b"]:
                    command = (word, *[argument] * many)
                    if many != count:
                        self.assert_batch_fails(registry, InvalidCommand, [command], [])
                        self.assert_batch_fails(registry, InvalidCommand, [("mark", "one"), command], ["mark", "done"])
                        self.assert_batch_fails(registry, InvalidCommand, [command, ("back", "none")], [])

    def test_an_earlier_command_that_fails_goes_ahead(self):
        registry = example()
        self.assert_batch_fails(registry, UnknownMark, [("back", "none"), None], ["back", "failed"])
        self.assert_batch_fails(registry, UnknownMark, [("back", "none"), ("batch", [])], ["back", "failed"])
        self.assert_batch_fails(registry, InvalidCommand, [("batch", []), ("back", "none")], [])

    def test_any_object_as_an_argument(self):
        registry = example()
        for thing in ANYTHING:
            is_new = isinstance(thing, str) and is_name(thing)
            if not is_new:
                self.assert_batch_fails(registry, InvalidName, [("create", thing, thing)], ["create", "failed"])
                self.assert_batch_fails(registry, InvalidName, [("mark", thing)], ["mark", "failed"])
            for command in [("price", thing, "a", 1), ("update", thing, [], []), ("remove", thing)]:
                self.assert_batch_fails(registry, UnknownName, [command], [command[0], "failed"])
            self.assert_batch_fails(registry, UnknownMark, [("back", thing)], ["back", "failed"])

    def test_a_batch_after_one_that_failed(self):
        registry = example()
        self.assert_batch_fails(registry, UnknownName, [("create", "more", 5), ("remove", "z")], ["create", "done", "remove", "failed"])
        log = registry.log()
        self.assertEqual(registry.batch([("create", "more", 5), ("mark", "more")]), [None, None])
        self.assertEqual(registry.names(), ["main", "more"])
        self.assertEqual(registry.log(), log + ["batch", "create", "done", "mark", "done", "done"])

    def test_drawn_batches_against_single_commands(self):
        dice = random.Random(223)
        seen = {True: 0, False: 0}
        for _ in range(150):
            registry = Registry()
            registry.create("a", 9)
            registry.mark("a")
            for _ in range(4):
                commands = [draw_command(dice) for _ in range(dice.randint(0, 5))]
                seen[self.is_like_single_commands(registry, commands)] += 1
        self.assertGreater(min(seen.values()), 100)

    def is_like_single_commands(self, registry, commands):
        """Check a batch against the same commands one by one; tell whether all of them are done."""
        single, results, error = registry.copy(), [], None
        for word, *arguments in commands:
            try:
                results.append(getattr(single, word)(*arguments))
            except RetimeError as wrong:
                error = type(wrong)
                break
        entries = single.log()
        if error is not None:
            self.assert_batch_fails(registry, error, commands, entries)
            return False
        log = registry.log()
        self.assertEqual(registry.batch(commands), results)
        self.assertEqual(registry.log(), log + ["batch", *entries, "done"])
        self.assertEqual(state_of(registry), state_of(single))
        return True


def draw_command(dice):
    """Return a command that a small registry may take."""
    name, task = dice.choice("aab"), dice.choice("xy")
    time = dice.randint(0, 10)
    edits = dice.choice([
        [("task", task, time)], [("drop", task)], [("time", task, time)], [("lag", "x", "y", time - 5)], [],
    ])
    return dice.choice([
        ("create", name, time), ("price", name, task, dice.choice([1, 5, None])), ("update", name, edits, []),
        ("update", name, edits, []), ("update", name, [("task", "x", time), ("task", "y", 1)], []),
        ("remove", name), ("mark", dice.choice("abcdefg")), ("back", dice.choice("aab")),
    ])


class QueriesTest(RegistryCase):
    def test_unknown_names(self):
        registry = example()
        registry.mark("more")
        log = registry.log()
        for thing in WRONG_NAMES + ["more", "mai", "a"]:
            for query in [registry.plan, registry.prices, registry.spent]:
                with self.subTest(thing=repr(thing)[:40]), self.assertRaises(UnknownName):
                    query(thing)
        self.assertEqual(registry.log(), log)

    def test_ascending(self):
        registry = Registry()
        for name in ["zz", "b", "ab", "a", "z"]:
            registry.create(name, 9)
        self.assertEqual(registry.names(), ["a", "ab", "b", "z", "zz"])
        registry.update("b", [("task", name, 1) for name in ["zz", "b", "ab", "a", "z"]], [])
        for price, name in enumerate(["z", "ab", "zz", "a", "b"]):
            registry.price("b", name, 1 + price)
        self.assertEqual(list(registry.prices("b").items()), [("a", 4), ("ab", 2), ("b", 5), ("z", 1), ("zz", 3)])
        registry.price("b", "a", 9)
        self.assertEqual(list(registry.prices("b")), ["a", "ab", "b", "z", "zz"])
        self.assertEqual(list(registry.plan("b").times()), ["a", "ab", "b", "z", "zz"])

    def test_names_prices_and_log_are_new_at_each_call(self):
        registry = example()
        seen, log = state_of(registry), registry.log()
        for query in [registry.names, registry.log]:
            found = query()
            self.assertIs(type(found), list)
            self.assertIsNot(query(), found)
            found.append("more")
            found[0] = "other"
        found = registry.prices("main")
        self.assertIs(type(found), dict)
        self.assertIsNot(registry.prices("main"), found)
        found["a"] = 9
        found["b"] = 9
        self.assertEqual((state_of(registry), registry.log()), (seen, log))
        self.assertEqual(registry.update("main", [("time", "b", 0)], []), 4)

    def test_results_of_a_batch_are_new(self):
        registry = Registry()
        found = registry.batch([("mark", "one")])
        found.append(5)
        self.assertEqual(registry.batch([("mark", "two")]), [None])

    def test_queries_write_no_log(self):
        registry = example()
        log = registry.log()
        for _ in range(2):
            state_of(registry)
            registry.copy()
        self.assertEqual(registry.log(), log)

    def test_failed_commands_stay_in_the_log(self):
        registry = Registry()
        registry.mark("one")
        self.assert_fails(registry, UnknownName, "remove", "main")
        registry.back("one")
        self.assertEqual(registry.log(), ["mark", "done", "remove", "failed", "back", "done"])


class CopyTest(RegistryCase):
    def test_the_same_plans_and_an_empty_log(self):
        registry = example()
        registry.mark("one")
        registry.update("main", [("time", "a", 2)], [])
        other = registry.copy()
        self.assertIs(type(other), Registry)
        self.assertEqual([state_of(other), other.log()], [state_of(registry), []])
        self.assertNotEqual(registry.log(), [])

    def test_independent_both_ways(self):
        registry = example()
        registry.mark("one")
        other = registry.copy()
        seen, log = state_of(registry), registry.log()
        other.price("main", "a", 3)
        other.update("main", [("time", "a", 5), ("task", "c", 1)], [])
        other.create("more", 3)
        other.mark("two")
        other.remove("main")
        self.assertEqual((state_of(registry), registry.log()), (seen, log))
        self.assert_fails(registry, UnknownMark, "back", "two")
        there, entries = state_of(other), other.log()
        self.assertEqual(entries, ["price", "done", "update", "done", "create", "done", "mark", "done", "remove", "done"])
        registry.create("extra", 3)
        registry.mark("three")
        registry.price("main", "b", None)
        self.assertEqual((state_of(other), other.log()), (there, entries))
        self.assert_fails(other, UnknownMark, "back", "three")

    def test_marks_are_copied(self):
        registry = example()
        seen = state_of(registry)
        registry.mark("one")
        registry.remove("main")
        other = registry.copy().copy()
        other.back("one")
        self.assertEqual([state_of(other), state_of(registry)], [seen, []])
        other.update("main", [("task", "c", 4)], [])
        registry.back("one")
        self.assertEqual(state_of(registry), seen)
        self.assert_fails(other, DuplicateName, "mark", "one")


class ArgumentsTest(RegistryCase):
    def test_by_name(self):
        registry = Registry()
        self.assertIsNone(registry.create(horizon=20, name="main"))
        self.assertEqual(registry.update(hold=["a"], edits=TASKS, name="main"), 0)
        self.assertIsNone(registry.price(amount=4, task="b", name="main"))
        self.assertIsNone(registry.mark(label="one"))
        self.assertIsNone(registry.remove(name="main"))
        self.assertIsNone(registry.back(label="one"))
        self.assertEqual(registry.batch(commands=[("mark", "two")]), [None])
        self.assertEqual(registry.plan(name="main").times(), {"a": 0, "b": 3})
        self.assertEqual([registry.prices(name="main"), registry.spent(name="main")], [{"b": 4}, 0])

    def test_arguments_stay_as_they_are_and_may_change_later(self):
        registry = Registry()
        registry.create("main", 20)
        edits, hold = list(TASKS), ["b", "a"]
        commands = [("update", "main", edits, hold), ("price", "main", "b", 4)]
        registry.batch(commands)
        self.assertEqual([edits, hold], [TASKS, ["b", "a"]])
        self.assertEqual(commands, [("update", "main", edits, hold), ("price", "main", "b", 4)])
        seen = state_of(registry)
        edits.clear()
        hold.clear()
        commands.clear()
        self.assertEqual(state_of(registry), seen)

    def test_later_changes_to_a_plan_have_no_effect(self):
        registry = example()
        registry.mark("one")
        seen = state_of(registry)
        registry.plan("main").horizon = 3
        registry.copy().plan("main").horizon = 4
        self.assertEqual(state_of(registry), seen)
        registry.back("one")
        registry.plan("main").horizon = 5
        self.assertEqual([state_of(registry), state_of(registry.copy())], [seen, seen])

    def test_a_plan_stays_as_it_was_returned(self):
        registry = example()
        found = registry.plan("main")
        again = apply_edits(found, [])
        registry.update("main", [("time", "a", 2), ("task", "c", 5)], [])
        registry.remove("main")
        self.assertEqual(found, again)


if __name__ == "__main__":
    unittest.main()
