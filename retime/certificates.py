"""Certificates that no repair is cheaper, or that there is none."""

from retime.conflicts import conflicts
from retime.flows import Flow
from retime.prices import check_prices, firm_nodes, limits_of
from retime.repairs import conflicts_and_obstacle


def certificate(plan, prices):
    """Return a certificate that supports the least price, or the bar None if there is no repair."""
    pairs, pair = conflicts_and_obstacle(plan, prices)
    if pair is not None:
        return [(pair, 1)]
    return chains_of(Flow(pairs, limits_of(plan, prices)).amounts)


def check_certificate(plan, prices, thing, bar):
    """Tell whether a thing, any object, is a certificate that supports a bar."""
    check_prices(prices)
    pairs = {pair: True for pair in conflicts(plan)}
    if not isinstance(thing, list) or not all([is_entry(entry, pairs) for entry in thing]):
        return False
    loads = loads_of(thing)
    if not all([loads[node] <= prices.get(node, loads[node]) for node in loads]):
        return False
    if bar is None:
        firm = firm_nodes(plan, prices)
        return any([count_among(firm, chain) > 1 for chain, amount in thing])
    return sum([(len(chain) - 1) * amount for chain, amount in thing]) >= bar


def chains_of(amounts):
    """Return a list of pairs of a chain and an amount that together give each pair of nodes its amount."""
    left = {pair: amount for pair, amount in amounts.items() if amount > 0}
    found = []
    while left:
        # Each chain is as long as possible. So the chains that contain a node take no more
        # than what it sends or what it receives, whichever is greater, and that has a limit.
        chain = longest_way(left)
        steps = list(zip(chain, chain[1:]))
        amount = min([left[pair] for pair in steps])
        found.append((chain, amount))
        for pair in steps:
            left[pair] -= amount
        left = {pair: rest for pair, rest in left.items() if rest > 0}
    return found


def longest_way(pairs):
    """Return any chain along pairs of nodes, which lead around nowhere, that neither end of it can extend."""
    before = {second: first for first, second in pairs}
    after = {first: second for first, second in pairs}
    node = list(after)[0]
    while node in before:
        node = before[node]
    chain = [node]
    while node in after:
        node = after[node]
        chain.append(node)
    return tuple(chain)


def is_entry(thing, pairs):
    """Tell whether a thing, any object, is a pair of a chain along some of the given pairs and an amount."""
    if not isinstance(thing, tuple) or len(thing) != 2:
        return False
    chain, amount = thing
    if not isinstance(chain, tuple) or len(chain) < 2 or not all([isinstance(node, str) for node in chain]):
        return False
    if not all([pair in pairs for pair in zip(chain, chain[1:])]):
        return False
    return isinstance(amount, int) and not isinstance(amount, bool) and amount >= 1


def loads_of(entries):
    """Return the dict from the nodes to the sum of the amounts of the chains that contain them."""
    loads = {}
    for chain, amount in entries:
        for node in chain:
            loads[node] = loads.get(node, 0) + amount
    return loads


def count_among(nodes, chain):
    """Return how many nodes of a chain are among some nodes."""
    return len([node for node in chain if node in nodes])
