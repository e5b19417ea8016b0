"""Chains of lags with the greatest total, and distances."""

from retime.cycles import greatest_gaps
from retime.errors import UnknownName
from retime.plans import is_node_of, is_task_of


def distance(plan, first, second):
    """Return the distance from a node to a node."""
    check_node(plan, first)
    check_node(plan, second)
    totals, _ = longest_chains(gaps_of(plan), first)
    return totals[second]


def chain(plan, first, second):
    """Return a chain of lags from a node to a node whose total is the distance."""
    check_node(plan, first)
    check_node(plan, second)
    _, previous = longest_chains(gaps_of(plan), first)
    nodes = [second]
    while nodes[-1] != first:
        nodes.append(previous[nodes[-1]])
    return tuple(reversed(nodes))


def check_node(plan, thing):
    """Raise UnknownName unless a thing, any object, is the origin or a task of a plan."""
    if not is_node_of(thing, plan.times()):
        raise UnknownName("the plan has no such node")


def check_task(plan, thing):
    """Raise UnknownName unless a thing, any object, is a task of a plan."""
    if not is_task_of(thing, plan.times()):
        raise UnknownName("the plan has no such task")


def gaps_of(plan):
    """Return the dict from pairs of nodes to the gap that counts, implicit lags included."""
    return greatest_gaps(plan.horizon, plan.times(), plan.lags())


def longest_chains(gaps, start):
    """Return the dict of the distances from a node, and that of the last steps back of such chains."""
    totals = {start: 0}
    previous = {}
    raised = True
    # No cycle has a positive total. So the totals settle, and as a step is only
    # changed for a greater total, the steps back never lead around a cycle.
    while raised:
        raised = False
        for (first, second), gap in gaps.items():
            if first in totals and (second not in totals or totals[first] + gap > totals[second]):
                totals[second] = totals[first] + gap
                previous[second] = first
                raised = True
    return totals, previous


def distances_from(plan, nodes):
    """Return the dict from the given nodes to the dicts of the distances from them to all nodes."""
    gaps = gaps_of(plan)
    found = {}
    for node in nodes:
        totals, _ = longest_chains(gaps, node)
        found[node] = totals
    return found
