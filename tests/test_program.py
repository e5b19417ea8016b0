"""Tests of what [2] says of the whole program: arguments, results, and what they depend on."""

import copy
import itertools
import random
import unittest

import drawn
from retime.certificates import certificate, check_certificate
from retime.chains import chain, distance
from retime.conflicts import after, before, conflicts, violations
from retime.edits import apply_edits
from retime.errors import RetimeError
from retime.history import History
from retime.keeping import can_keep, earliest, latest
from retime.lattice import always_kept, is_cheapest, join, meet, sometimes_kept
from retime.plans import Plan, is_name
from retime.registry import Registry
from retime.repairs import highest, lowest, obstacle, repair
from retime.shell import Shell
from retime.slack import displaced, fixed, slack
from retime.steps import steps
from retime.text import format_plan, parse_plan

PLAN = Plan(9, {'a': 2, 'b': 2, 'c': 5, 'd': 5}, [('a', 'b', 1), ('c', 'd', 1), ('', 'a', 1)])
PRICES = {"d": 4, "c": 4, "b": 4, "a": 4, "z": 9}

# Each function with its arguments by name, in the order of the document.
FUNCTIONS = [
    (is_name, {"thing": "abc"}),
    (Plan, {"horizon": 9, "times": {"b": 2, "a": 1}, "lags": [("b", "", -5), ("a", "b", 1)]}),
    (format_plan, {"plan": PLAN}),
    (parse_plan, {"text": "20\na 0\nb 3\na b 2"}),
    (distance, {"plan": PLAN, "first": "a", "second": "b"}),
    (chain, {"plan": PLAN, "first": "a", "second": "b"}),
    (violations, {"plan": PLAN}),
    (conflicts, {"plan": PLAN}),
    (before, {"plan": PLAN, "node": "b"}),
    (after, {"plan": PLAN, "node": "a"}),
    (can_keep, {"plan": PLAN, "kept": ["c", "b"]}),
    (earliest, {"plan": PLAN, "kept": ["c", "b"]}),
    (latest, {"plan": PLAN, "kept": ["c", "b"]}),
    (obstacle, {"plan": PLAN, "prices": {"c": 1}}),
    (lowest, {"plan": PLAN, "prices": PRICES}),
    (highest, {"plan": PLAN, "prices": PRICES}),
    (repair, {"plan": PLAN, "prices": PRICES}),
    (certificate, {"plan": PLAN, "prices": PRICES}),
    (check_certificate, {"plan": PLAN, "prices": PRICES, "thing": [(("a", "b"), 2)], "bar": 2}),
    (is_cheapest, {"plan": PLAN, "prices": PRICES, "kept": ["d", "b"]}),
    (meet, {"plan": PLAN, "prices": PRICES, "first": ["d", "a"], "second": ["c", "b"]}),
    (join, {"plan": PLAN, "prices": PRICES, "first": ["d", "a"], "second": ["c", "b"]}),
    (always_kept, {"plan": PLAN, "prices": PRICES}),
    (sometimes_kept, {"plan": PLAN, "prices": PRICES}),
    (steps, {"plan": PLAN, "prices": PRICES, "name": "b"}),
    (slack, {"plan": PLAN, "name": "b"}),
    (fixed, {"plan": PLAN}),
    (displaced, {"plan": PLAN}),
    (apply_edits, {"plan": PLAN, "edits": [("drop", "a"), ("task", "a", 3)]}),
]
EDITS = [("task", "e", 8), ("lag", "d", "e", 4)]
# The methods of each class with their arguments; each is called on an object that made() returns.
METHODS = [
    ("plan", "time", {"name": "a"}), ("plan", "times", {}), ("plan", "lags", {}), ("plan", "__len__", {}),
    ("history", "update", {"edits": EDITS, "prices": PRICES, "hold": ["e"]}),
    ("history", "plan", {"version": 0}), ("history", "moved", {"first": 0, "second": 1}),
    ("history", "spent", {}), ("history", "copy", {}), ("history", "__len__", {}),
    ("registry", "create", {"name": "more", "horizon": 9}),
    ("registry", "price", {"name": "main", "task": "a", "amount": 5}),
    ("registry", "update", {"name": "main", "edits": EDITS, "hold": ["e"]}),
    ("registry", "remove", {"name": "main"}), ("registry", "mark", {"label": "two"}), ("registry", "back", {"label": "one"}),
    ("registry", "batch", {"commands": [("price", "main", "b", 7), ("update", "main", EDITS, ["a"])]}),
    ("registry", "names", {}), ("registry", "plan", {"name": "main"}), ("registry", "prices", {"name": "main"}),
    ("registry", "spent", {"name": "main"}), ("registry", "log", {}), ("registry", "copy", {}),
    ("shell", "run", {"line": "lag main - b 5"}),
]


def made(kind):
    """Return a new object of a class, in the same state each time."""
    if kind == "plan":
        return Plan(PLAN.horizon, PLAN.times(), PLAN.lags())
    if kind == "history":
        found = History(PLAN)
        found.update([], PRICES)
        return found
    if kind == "registry":
        found = Registry()
        found.create("main", 9)
        found.update("main", [("task", name, at) for at, name in enumerate("dcba")], [])
        for at, name in enumerate("cdab"):
            found.price("main", name, 1 + at)
        found.mark("one")
        found.update("main", [("lag", "d", "c", 3)], [])
        return found
    found = Shell()
    for line in ["create main 9", "task main b 2", "price main b 3"]:
        found.run(line)
    return found


def seen_of(thing):
    """Return all that can be seen of a value or an object, in a form that can be compared."""
    if isinstance(thing, Plan):
        return ("plan", drawn.state_of(thing))
    if isinstance(thing, History):
        many = range(len(thing))
        return ("history", [seen_of(thing.plan(at)) for at in many], thing.spent(), [thing.moved(0, at) for at in many])
    if isinstance(thing, Registry):
        names = thing.names()
        plans = [(seen_of(thing.plan(name)), seen_of(thing.prices(name)), thing.spent(name)) for name in names]
        other = thing.copy()
        return ("registry", names, plans, thing.log(), seen_of_mark(other))
    if isinstance(thing, Shell):
        names = thing.run("names")
        return ("shell", names, [thing.run("show " + name) for name in names.split(" ") if name != "-"])
    if isinstance(thing, dict):
        return ("dict", [(key, seen_of(value)) for key, value in thing.items()])
    if isinstance(thing, (list, tuple)):
        return (type(thing).__name__, [seen_of(item) for item in thing])
    return (type(thing).__name__, thing)


def seen_of_mark(registry):
    """Return what can be seen of a registry after going back to its first mark."""
    try:
        registry.back("one")
    except RetimeError:
        return None
    return [(name, seen_of(registry.plan(name)), seen_of(registry.prices(name))) for name in registry.names()]


def spoil(thing):
    """Change a value, and what it contains, wherever that is possible."""
    if isinstance(thing, dict):
        for value in thing.values():
            spoil(value)
        thing.clear()
        thing["spoilt"] = 1
    elif isinstance(thing, list):
        for item in thing:
            spoil(item)
        thing[:] = ["spoilt"]
    elif isinstance(thing, tuple):
        for item in thing:
            spoil(item)
    elif isinstance(thing, Plan):
        spoil(thing.times())
        thing.horizon = 1
    elif isinstance(thing, History):
        thing.update([("task", "spoilt", 0)], {name: 1 for name in thing.plan().times()})
        spoil(thing.plan())
    elif isinstance(thing, Registry):
        thing.create("spoilt", 1)
        for name in thing.names():
            thing.remove(name)


def copied(thing):
    """Return a copy of an argument, of plans too."""
    return copy.deepcopy(thing)


class ByNameTest(unittest.TestCase):
    def test_functions(self):
        for function, named in FUNCTIONS:
            expected = seen_of(function(*copied(list(named.values()))))
            for order in itertools.islice(itertools.permutations(named), 24):
                found = function(**{name: copied(named[name]) for name in order})
                self.assertEqual(seen_of(found), expected, function.__name__)
            for many in range(len(named)):
                rest = list(named)[many:]
                found = function(*list(named.values())[:many], **{name: named[name] for name in rest})
                self.assertEqual(seen_of(found), expected, function.__name__)

    def test_methods_and_constructors(self):
        self.assertEqual(seen_of(History(plan=PLAN)), seen_of(History(PLAN)))
        for kind, method, named in METHODS:
            first, second = made(kind), made(kind)
            self.assertEqual(seen_of(first), seen_of(second))
            expected = seen_of(getattr(first, method)(*copied(list(named.values()))))
            found = getattr(second, method)(**{name: copied(named[name]) for name in reversed(named)})
            self.assertEqual(seen_of(found), expected, method)
            self.assertEqual(seen_of(first), seen_of(second), method)


class ArgumentsTest(unittest.TestCase):
    def test_functions_do_not_modify_their_arguments(self):
        for function, named in FUNCTIONS:
            arguments = copied(list(named.values()))
            function(*arguments)
            self.assertEqual(seen_of(arguments), seen_of(list(named.values())), function.__name__)

    def test_methods_do_not_modify_their_arguments(self):
        for kind, method, named in METHODS:
            arguments = copied(list(named.values()))
            getattr(made(kind), method)(*arguments)
            self.assertEqual(seen_of(arguments), seen_of(list(named.values())), method)

    def test_changed_arguments_and_results_of_functions_have_no_effect(self):
        for function, named in FUNCTIONS:
            arguments = copied(list(named.values()))
            found = function(*arguments)
            expected = seen_of(found)
            spoil(arguments)
            self.assertEqual(seen_of(found), expected, function.__name__)
            again = function(*copied(list(named.values())))
            self.assertEqual(seen_of(again), expected, function.__name__)
            spoil(found)
            self.assertEqual(seen_of(function(*copied(list(named.values())))), expected, function.__name__)

    def test_changed_arguments_and_results_of_methods_have_no_effect(self):
        for kind, method, named in METHODS:
            thing, other = made(kind), made(kind)
            arguments = copied(list(named.values()))
            found = getattr(thing, method)(*arguments)
            spoil(arguments)
            expected = getattr(other, method)(*copied(list(named.values())))
            self.assertEqual(seen_of(found), seen_of(expected), method)
            self.assertEqual(seen_of(thing), seen_of(other), method)
            spoil(found)
            self.assertEqual(seen_of(thing), seen_of(other), method)

    def test_objects_copy_their_arguments(self):
        plan = copied(PLAN)
        history = History(plan)
        spoil(plan)
        self.assertEqual(seen_of(history.plan()), seen_of(PLAN))
        times, lags = PLAN.times(), list(PLAN.lags())
        plan = Plan(9, times, lags)
        spoil([times, lags])
        self.assertEqual(seen_of(plan), seen_of(PLAN))

    def test_later_results_after_a_change_of_earlier_ones(self):
        for kind in ["history", "registry"]:
            thing, other = made(kind), made(kind)
            for one, method, named in METHODS:
                if one != kind:
                    continue
                results = []
                for some in [thing, other]:
                    try:
                        results.append(getattr(some, method)(*copied(list(named.values()))))
                    except RetimeError as error:
                        results.append(type(error).__name__)
                self.assertEqual(seen_of(results[0]), seen_of(results[1]), method)
                spoil(results[0])
                self.assertEqual(seen_of(thing), seen_of(other), method)

    def test_equal_lists_and_tuples(self):
        for function, named in FUNCTIONS:
            tuples = {name: tuple(value) if isinstance(value, list) else value for name, value in named.items()}
            tuples.pop("thing", None)
            found = function(**{**copied(named), **copied(tuples)})
            self.assertEqual(seen_of(found), seen_of(function(**copied(named))), function.__name__)

    def test_dicts_have_their_names_in_ascending_order(self):
        dice = random.Random(241)
        for plan in drawn.draw_plans(242, 60, most_tasks=8, most_time=9, most_lags=6):
            names = list(plan.times())
            dice.shuffle(names)
            other = Plan(plan.horizon, {name: plan.time(name) for name in names}, plan.lags())
            for found in [other.times(), earliest(other, []), latest(other, []), apply_edits(other, []).times()]:
                self.assertEqual(list(found), sorted(names))
            registry = Registry()
            registry.create("main", plan.horizon)
            registry.update("main", [("task", name, plan.time(name)) for name in names], [])
            for name in names:
                registry.price("main", name, 1)
            self.assertEqual([list(registry.prices("main")), list(registry.plan("main").times())], [sorted(names)] * 2)


def answers(plan, prices):
    """Return what all functions answer about a plan, errors included."""
    names = list(plan.times())
    nodes = drawn.nodes_of(plan)
    calls = [(function, (plan,)) for function in [format_plan, violations, conflicts, fixed, displaced]]
    for function in [obstacle, lowest, highest, repair, certificate, always_kept, sometimes_kept]:
        calls.append((function, (plan, prices)))
    for name in names:
        calls += [(slack, (plan, name)), (steps, (plan, prices, name)), (before, (plan, name)), (after, (plan, name))]
    calls += [(function, (plan, *pair)) for function in [distance, chain] for pair in itertools.product(nodes, nodes)]
    for kept in [names, names[:1], []]:
        calls += [(function, (plan, kept)) for function in [can_keep, earliest, latest]]
        calls += [(is_cheapest, (plan, prices, kept)), (meet, (plan, prices, kept, kept)), (join, (plan, prices, kept, kept))]
    calls += [(check_certificate, (plan, prices, [((), 1)], 0)), (apply_edits, (plan, [("drop", name) for name in names]))]
    return [answer(function, arguments) for function, arguments in calls]


def answer(function, arguments):
    """Return what a call returns, or its error with the attributes."""
    try:
        return seen_of(function(*arguments))
    except RetimeError as error:
        return (type(error).__name__, vars(error))


def made_anew(plan):
    """Return plans that are equal to a plan, made in many ways."""
    names = list(plan.times())
    registry, shell = Registry(), Shell()
    registry.create("main", plan.horizon)
    registry.update("main", [("task", name, plan.time(name)) for name in reversed(names)], [])
    shell.run(f"create main {plan.horizon}")
    for name in reversed(names):
        shell.run(f"task main {name} {plan.time(name)}")
    lags = [("lag", *lag) for lag in reversed(plan.lags())]
    found = [
        Plan(plan.horizon, {name: plan.time(name) for name in reversed(names)}, list(reversed(plan.lags()))),
        parse_plan(format_plan(plan)),
        apply_edits(registry.plan("main"), lags),
        apply_edits(parse_plan(shell.run("show main").replace(" / ", "\n")), lags),
        History(plan).plan(), History(plan).copy().plan(0),
    ]
    if not conflicts(plan):
        history = History(registry.plan("main"))
        history.update(lags, {})
        registry.update("main", lags, names)
        found += [history.plan(1), registry.plan("main"), registry.copy().plan("main"), repair(plan, {})]
    return found


class ResultsTest(unittest.TestCase):
    def test_the_same_plan_made_in_many_ways(self):
        dice = random.Random(243)
        without = 0
        for plan in drawn.draw_plans(244, 60) + [drawn.draw_crowd(dice, 6, 12, 6) for _ in range(15)]:
            prices = drawn.draw_prices(dice, plan)
            expected = answers(plan, prices)
            others = made_anew(plan)
            without += len(others) > 6
            for other in others:
                self.assertEqual(other, plan)
                names = list(prices)
                dice.shuffle(names)
                self.assertEqual(answers(other, {name: prices[name] for name in names}), expected)
        self.assertGreater(without, 5)

    def test_the_same_calls_after_other_ones(self):
        dice = random.Random(245)
        plans = drawn.draw_plans(246, 25) + [drawn.draw_crowd(dice, 6, 12, 6) for _ in range(10)]
        asked = [(plan, drawn.draw_prices(dice, plan)) for plan in plans for _ in range(2)]
        expected = [answers(plan, prices) for plan, prices in asked]
        for at in dice.sample(range(len(asked)), len(asked)):
            self.assertEqual(answers(*asked[at]), expected[at])

    def test_the_same_after_calls_that_failed(self):
        expected = [answer(function, named.values()) for function, named in FUNCTIONS]
        for function, named in FUNCTIONS:
            for wrong in ["text", "prices", "kept", "edits", "name", "node", "first", "second", "thing", "times", "lags"]:
                for thing in [None, [None], [["a"]], {"a": [1]}]:
                    if wrong in named:
                        answer(function, {**named, wrong: thing}.values())
        self.assertEqual([answer(function, named.values()) for function, named in FUNCTIONS], expected)


if __name__ == "__main__":
    unittest.main()
