"""The cheapest repairs of a plan."""

from retime.conflicts import conflicts, smallest_conflict
from retime.errors import NoRepair
from retime.flows import Flow
from retime.keeping import check_kept, earliest
from retime.plans import Plan
from retime.prices import check_prices, firm_nodes, limits_of


def obstacle(plan, prices):
    """Return the smallest pair of firm nodes that conflict, or None if there is a repair."""
    _, pair = conflicts_and_obstacle(plan, prices)
    return pair


def lowest(plan, prices):
    """Return the price and the kept tasks of the lowest cheapest repair, or None if there is no repair."""
    pairs, pair = conflicts_and_obstacle(plan, prices)
    if pair is not None:
        return None
    # Turning all pairs around turns the order of the cheapest repairs around.
    return highest_of([(second, first) for first, second in pairs], limits_of(plan, prices))


def highest(plan, prices):
    """Return the price and the kept tasks of the highest cheapest repair, or None if there is no repair."""
    pairs, pair = conflicts_and_obstacle(plan, prices)
    if pair is not None:
        return None
    return highest_of(pairs, limits_of(plan, prices))


def repair(plan, prices):
    """Return the plan with the earliest times for the kept tasks of the lowest cheapest repair."""
    _, repaired = priced_repair(plan, prices)
    return repaired


def priced_repair(plan, prices):
    """Return the least price and the plan that repair returns, or raise InvalidPrices or NoRepair."""
    pair = obstacle(plan, prices)
    if pair is not None:
        raise NoRepair(pair)
    price, kept = lowest(plan, prices)
    return (price, Plan(plan.horizon, earliest(plan, kept), plan.lags()))


def repair_holding(plan, prices, hold):
    """Return the price and the repaired plan where some tasks, any object, are firm even if they have a price."""
    check_prices(prices)
    check_kept(plan, hold)
    return priced_repair(plan, {name: prices[name] for name in prices if name not in hold})


def conflicts_and_obstacle(plan, prices):
    """Return all pairs of nodes that conflict, and the smallest one of two firm nodes, or None."""
    check_prices(prices)
    pairs = conflicts(plan)
    return (pairs, smallest_conflict(pairs, firm_nodes(plan, prices)))


def highest_of(pairs, limits):
    """Return the least price and the tuple of the tasks that the highest cheapest repair keeps."""
    flow = Flow(pairs, limits)
    return (flow.total(), tuple([node for node in flow.kept() if node != ""]))
