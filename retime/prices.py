"""Prices of tasks, and the firm nodes of a plan."""

from retime.errors import InvalidPrices
from retime.plans import is_integer_within, is_name

DEAREST = 999


def is_price(thing):
    """Tell whether a thing, any object, is a price."""
    return is_integer_within(thing, 1, DEAREST)


def check_prices(thing):
    """Raise InvalidPrices unless a thing, any object, is a dict from names to prices."""
    if not isinstance(thing, dict):
        raise InvalidPrices("prices are a dict")
    if not all([is_name(name) and is_price(thing[name]) for name in thing]):
        raise InvalidPrices("this is no dict from names to prices")


def firm_nodes(plan, prices):
    """Return the list of the origin and the tasks without a price."""
    return [""] + [name for name in plan.times() if name not in prices]


def limits_of(plan, prices):
    """Return the dict from all nodes to their prices, where a firm node costs more than all priced tasks."""
    priced = {name: prices[name] for name in plan.times() if name in prices}
    beyond = 1 + sum(priced.values())
    limits = {"": beyond}
    for name in plan.times():
        limits[name] = priced.get(name, beyond)
    return limits
