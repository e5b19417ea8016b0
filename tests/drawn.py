"""Plans drawn with a fixed seed, and the definitions of DOC.md computed in the plain way."""

import itertools
import random

from retime.plans import Plan

NAMES = ["a", "aa", "b", "ba", "c", "d", "m", "x", "zz", "zzzzzzzz"]
NAMES += [first + second for first in "efgh" for second in "pqrst"]


def draw_plan(dice, tasks, horizon, lags):
    """Return a plan with at most as many lags, which some times that are drawn first satisfy."""
    names = dice.sample(NAMES, tasks)
    base = {name: dice.randint(0, horizon) for name in names}
    nodes = ["", *names]
    drawn = []
    for _ in range(lags if names else 0):
        first, second = dice.sample(nodes, 2)
        room = dice.choice([0, 0, 0, 1, 2, horizon])
        drawn.append((first, second, base.get(second, 0) - base.get(first, 0) - room))
    times = {name: dice.choice([base[name], dice.randint(0, horizon)]) for name in names}
    return Plan(horizon, times, drawn)


def draw_crowd(dice, tasks, horizon, lags, spread=2):
    """Return a plan with times close together, so that many tasks conflict and few do so with the origin."""
    names = dice.sample(NAMES, tasks)
    drawn = []
    for _ in range(lags if tasks > 1 else 0):
        first, second = sorted(dice.sample(range(tasks), 2))
        drawn.append((names[first], names[second], dice.choice([0, 1, 1])))
    low = (horizon - spread) // 2
    times = {name: dice.randint(low, low + spread) for name in names}
    return Plan(horizon, times, drawn)


def draw_plans(seed, many, most_tasks=4, most_time=5, most_lags=8):
    """Return a list of drawn plans of many sizes."""
    dice = random.Random(seed)
    return [
        draw_plan(dice, dice.randint(0, most_tasks), dice.randint(0, most_time), dice.randint(0, most_lags))
        for _ in range(many)
    ]


def draw_prices(dice, plan):
    """Return prices for some tasks, many of them equal, and for names that are no tasks."""
    share = dice.choice([0, 1, 2, 4, 4])
    amounts = dice.choice([[1], [1, 2], [1, 999], [2, 3, 5], range(1, 1000)])
    names = [name for name in plan.times() if dice.randint(1, 4) <= share]
    names += dice.sample(["other", "more"], dice.randint(0, 2))
    dice.shuffle(names)
    return {name: dice.choice(amounts) for name in names}


def draw_edit(dice, plan):
    """Return an edit, many of which a plan can take."""
    names = [*plan.times(), *plan.times(), *plan.times(), *"abc"]
    nodes = ["", *names]
    time = dice.choice([0, plan.horizon, dice.randint(0, plan.horizon), dice.randint(-1, plan.horizon + 1)])
    lag = (dice.choice(nodes), dice.choice(nodes), dice.randint(-plan.horizon - 1, dice.choice([1, plan.horizon])))
    return dice.choice([
        ("task", dice.choice("abcdefgh"), time), ("drop", dice.choice(names)), ("time", dice.choice(names), time),
        ("lag", *lag), ("lag", *lag), ("unlag", *dice.choice(plan.lags() or [lag])),
    ])


def long_names(many):
    """Return as many names in ascending order."""
    return ["n" + chr(97 + at // 26) + chr(97 + at % 26) for at in range(many)]


def row_of_thirty():
    """Return a plan with thirty tasks in a row and ninety-nine lags."""
    names = long_names(30)
    lags = [(names[at], names[at + 1], 1 + at % 3) for at in range(29)]
    lags += [(names[at + 1], names[at], -5 - at % 2) for at in range(29)]
    lags += [(names[at], names[at + 2], 2) for at in range(28)]
    lags += [("", name, 3) for name in names[:6]] + [(name, "", -900) for name in names[-7:]]
    return Plan(1000, {name: 31 * at % 100 for at, name in enumerate(names)}, lags)


def nodes_of(plan):
    return ["", *plan.times()]


def gaps_of(plan):
    """Return the dict from pairs of nodes to the gap that counts, implicit lags included."""
    found = {}
    implicit = [lag for name in plan.times() for lag in [("", name, 0), (name, "", -plan.horizon)]]
    for first, second, gap in [*implicit, *plan.lags()]:
        found[first, second] = max(gap, found.get((first, second), gap))
    return found


def total_of(gaps, chain):
    """Return the total of a chain by the gaps that count, or None if a step of it has no lag."""
    found = [gaps.get(pair) for pair in itertools.pairwise(chain)]
    return None if None in found else sum(found)


def plain_distance(plan, first, second):
    """Return the distance as the greatest total of all chains without repetitions."""
    if first == second:
        return 0
    gaps = gaps_of(plan)
    others = [node for node in nodes_of(plan) if node not in (first, second)]
    totals = []
    for between in subsets(others):
        for order in itertools.permutations(between):
            totals.append(total_of(gaps, (first, *order, second)))
    return max(total for total in totals if total is not None)


def table_of(plan):
    """Return the dict of all distances, by way of each node in turn."""
    nodes = nodes_of(plan)
    gaps = gaps_of(plan)
    found = {pair: gaps.get(pair, -10 ** 9) for pair in itertools.product(nodes, repeat=2)}
    found.update({(node, node): 0 for node in nodes})
    for middle in nodes:
        for first in nodes:
            for second in nodes:
                way = found[first, middle] + found[middle, second]
                if way > found[first, second]:
                    found[first, second] = way
    return found


def plain_conflicts(plan, table=None):
    """Return the ascending list of the pairs that conflict."""
    table = table or table_of(plan)
    at = {"": 0, **plan.times()}
    return sorted(pair for pair, most in table.items() if at[pair[1]] - at[pair[0]] < most)


def all_times(plan):
    """Return all times from 0 to the horizon for which all lags hold."""
    names = list(plan.times())
    found = []
    for choice in itertools.product(range(plan.horizon + 1), repeat=len(names)):
        at = dict(zip(names, choice))
        places = {"": 0, **at}
        if all(places[second] - places[first] >= gap for first, second, gap in plan.lags()):
            found.append(at)
    return found


def subsets(things):
    """Return all tuples of some of the things, in their order."""
    things = list(things)
    found = []
    for many in range(len(things) + 1):
        found.extend(itertools.combinations(things, many))
    return found


def plain_repairs(plan, prices):
    """Return the dict from the sets of kept tasks of all repairs to their prices, by all times."""
    times = plan.times()
    keeping = {frozenset(name for name in times if at[name] == times[name]) for at in all_times(plan)}
    return priced_sets(plan, prices, lambda kept: any(set(kept) <= most for most in keeping))


def free_repairs(plan, prices):
    """Return the same dict by the conflicts, for plans with more times."""
    pairs = plain_conflicts(plan)

    def is_free(kept):
        nodes = {"", *kept}
        return not any(first in nodes and second in nodes for first, second in pairs)

    return priced_sets(plan, prices, is_free)


def priced_sets(plan, prices, is_repair):
    priced = [name for name in plan.times() if name in prices]
    firm = [name for name in plan.times() if name not in prices]
    found = {}
    for some in subsets(priced):
        kept = tuple(sorted([*firm, *some]))
        if is_repair(kept):
            found[kept] = sum(prices[name] for name in priced if name not in some)
    return found


def least_price(plan, prices):
    """Return the least price by trying for one task after the other to keep it or not, or None."""
    pairs = plain_conflicts(plan)
    nodes = nodes_of(plan)
    against = {node: set() for node in nodes}
    for first, second in pairs:
        against[first].add(second)
        against[second].add(first)
    firm = {node for node in nodes if node not in prices}
    if any(against[node] & firm for node in firm):
        return None
    left = {node for node in nodes if node not in firm and not against[node] & firm}
    paid = sum(prices[node] for node in nodes if node not in firm and node not in left)
    return paid + dearest_conflicts(left, against, prices)


def dearest_conflicts(left, against, prices):
    """Return the least price of some nodes such that the other ones are free of conflicts."""
    crowded = max(sorted(left), key=lambda node: len(against[node] & left), default=None)
    if crowded is None or not against[crowded] & left:
        return 0
    near = against[crowded] & left
    without = prices[crowded] + dearest_conflicts(left - {crowded}, against, prices)
    within = sum(prices[node] for node in near) + dearest_conflicts(left - near - {crowded}, against, prices)
    return min(without, within)


def with_time(plan, name, time):
    """Return the plan in which a task has another time."""
    return Plan(plan.horizon, {**plan.times(), name: time}, plan.lags())


def price_at(plan, prices, name, time):
    """Return the least price if a task has a time, is firm and costs nothing, or None."""
    return least_price(with_time(plan, name, time), {other: prices[other] for other in prices if other != name})


def mirrored(plan):
    """Return the plan in which every time is replaced by the horizon minus the time, as [10] says."""
    high = plan.horizon
    lags = []
    for first, second, gap in plan.lags():
        if first == "":
            lags.append((second, "", gap - high))
        elif second == "":
            lags.append(("", first, gap + high))
        else:
            lags.append((second, first, gap))
    times = {name: high - time for name, time in plan.times().items()}
    return Plan(high, times, [lag for lag in lags if abs(lag[2]) <= 1000000])


def is_supporting(plan, prices, thing, bar):
    """Tell whether a thing is a certificate that supports a bar, as [21] and [22] say."""
    if type(thing) is not list:
        return False
    pairs = plain_conflicts(plan)
    loads = dict.fromkeys(prices, 0)
    for entry in thing:
        if type(entry) is not tuple or len(entry) != 2:
            return False
        nodes, amount = entry
        if type(nodes) is not tuple or len(nodes) < 2 or type(amount) is not int or amount < 1:
            return False
        if any(pair not in pairs for pair in itertools.pairwise(nodes)):
            return False
        for node in nodes:
            if node in prices:
                loads[node] += amount
    if any(loads[name] > prices[name] for name in prices):
        return False
    if bar is None:
        return any(len([node for node in nodes if node not in prices]) >= 2 for nodes, _ in thing)
    return sum_of(thing) >= bar


def sum_of(entries):
    """Return the sum that a certificate has."""
    return sum((len(nodes) - 1) * amount for nodes, amount in entries)


def all_chains(plan):
    """Return all tuples of at least two nodes, each of them before the next one."""
    pairs = plain_conflicts(plan)
    found = list(pairs)
    for nodes in found:
        found.extend((*nodes, second) for first, second in pairs if first == nodes[-1])
    return found


def cheapest_of(repairs):
    """Return the list of the kept tasks of the repairs with the least price."""
    least = min(repairs.values(), default=None)
    return [kept for kept, price in repairs.items() if price == least]


def is_below(pairs, first, second):
    """Tell whether a set of kept tasks is below another one."""
    return all(
        task in second or any((task, other) in pairs for other in second) for task in first
    )


def plain_meet(pairs, first, second):
    union = {*first, *second}
    return tuple(sorted(node for node in union if not any((other, node) in pairs for other in union)))


def plain_join(pairs, first, second):
    union = {*first, *second}
    return tuple(sorted(node for node in union if not any((node, other) in pairs for other in union)))


def state_of(plan):
    """Return all that can be seen of a plan."""
    return (plan.horizon, list(plan.times().items()), plan.lags())
