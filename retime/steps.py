"""The least price as a function of the time of one task."""

from retime.chains import check_task, distances_from
from retime.conflicts import conflicts_at, node_times, room_beside, smallest_conflict
from retime.flows import Flow
from retime.prices import check_prices, firm_nodes, limits_of


def steps(plan, prices, name):
    """Return the list of the stretches (low, high, price) of the times of a task with the least price there."""
    check_prices(prices)
    check_task(plan, name)
    free = {other: price for other, price in prices.items() if other != name}
    firm = firm_nodes(plan, free)
    limits = limits_of(plan, free)
    at = node_times(plan)
    table = distances_from(plan, at)
    found = []
    for low, high in stretches(at, table, name):
        at[name] = low
        pairs = conflicts_at(at, table)
        if smallest_conflict(pairs, firm) is None:
            add_stretch(found, low, high, Flow(pairs, limits).total())
    return found


def stretches(at, table, name):
    """Return the list of pairs (low, high) of times between which a task does not get into or out of a conflict."""
    starts = []
    for node in at:
        if node != name:
            low, high = room_beside(at, table, name, node)
            starts.extend([low, high + 1])
    # Times ahead of the first start and from the last one on conflict with the origin.
    starts = sorted(set(starts))
    return [(low, further - 1) for low, further in zip(starts, starts[1:])]


def add_stretch(found, low, high, price):
    """Add a stretch behind the other ones, as part of the last one if that has the same price."""
    # Firm nodes allow all times from one to another one, so the last stretch ends just ahead.
    if found and found[-1][2] == price:
        found[-1] = (found[-1][0], high, price)
    else:
        found.append((low, high, price))
