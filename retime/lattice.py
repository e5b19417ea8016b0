"""The cheapest repairs of a plan compared with each other."""

from retime.conflicts import conflicts, smallest_conflict
from retime.errors import InvalidKept, NoRepair
from retime.flows import Flow
from retime.keeping import are_tasks
from retime.prices import check_prices, firm_nodes, limits_of
from retime.repairs import conflicts_and_obstacle


def is_cheapest(plan, prices, kept):
    """Tell whether a thing, any object, is a list or tuple of exactly the kept tasks of a cheapest repair."""
    check_prices(prices)
    return are_kept_by_a_cheapest(plan, prices, conflicts(plan), kept)


def meet(plan, prices, first, second):
    """Return the ascending tuple of the tasks in the meet of the kept tasks of two cheapest repairs."""
    check_prices(prices)
    pairs = conflicts(plan)
    union = union_of(plan, prices, pairs, first, second)
    later = [other for one, other in pairs if one in union]
    return tuple([name for name in union if name not in later])


def join(plan, prices, first, second):
    """Return the ascending tuple of the tasks in the join of the kept tasks of two cheapest repairs."""
    check_prices(prices)
    pairs = conflicts(plan)
    union = union_of(plan, prices, pairs, first, second)
    earlier = [one for one, other in pairs if other in union]
    return tuple([name for name in union if name not in earlier])


def always_kept(plan, prices):
    """Return the ascending tuple of the tasks that every cheapest repair keeps."""
    pairs = pairs_with_a_repair(plan, prices)
    limits = limits_of(plan, prices)
    least = Flow(pairs, limits).total()
    found = []
    for name in plan.times():
        others = [pair for pair in pairs if name not in pair]
        if name not in prices or prices[name] + Flow(others, limits).total() > least:
            found.append(name)
    return tuple(found)


def sometimes_kept(plan, prices):
    """Return the ascending tuple of the tasks that at least one cheapest repair keeps."""
    pairs = pairs_with_a_repair(plan, prices)
    limits = limits_of(plan, prices)
    least = Flow(pairs, limits).total()
    found = []
    for name in plan.times():
        # With the limit of the origin, the task costs more to change than the least price.
        dearer = {node: limits[""] if node == name else limits[node] for node in limits}
        if Flow(pairs, dearer).total() == least:
            found.append(name)
    return tuple(found)


def are_kept_by_a_cheapest(plan, prices, pairs, thing):
    """Tell the same as is_cheapest, by the pairs that conflict and prices that have been checked."""
    if not are_tasks(thing, plan.times()):
        return False
    nodes = ["", *thing]
    if not all([node in nodes for node in firm_nodes(plan, prices)]) or smallest_conflict(pairs, nodes) is not None:
        return False
    price = sum([prices[name] for name in plan.times() if name not in nodes])
    return price == Flow(pairs, limits_of(plan, prices)).total()


def union_of(plan, prices, pairs, first, second):
    """Return the ascending list of the tasks in two things, or raise InvalidKept unless cheapest repairs keep them."""
    if not are_kept_by_a_cheapest(plan, prices, pairs, first):
        raise InvalidKept("the first ones are not the kept tasks of a cheapest repair")
    if not are_kept_by_a_cheapest(plan, prices, pairs, second):
        raise InvalidKept("the second ones are not the kept tasks of a cheapest repair")
    return sorted(set([*first, *second]))


def pairs_with_a_repair(plan, prices):
    """Return the pairs that conflict, or raise InvalidPrices, or NoRepair if two firm nodes do."""
    pairs, pair = conflicts_and_obstacle(plan, prices)
    if pair is not None:
        raise NoRepair(pair)
    return pairs
