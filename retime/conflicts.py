"""Lags that do not hold, and nodes that conflict."""

from retime.chains import check_node, distances_from


def violations(plan):
    """Return the ascending tuple of the plan's own lags that do not hold."""
    at = node_times(plan)
    return tuple([(first, second, gap) for first, second, gap in plan.lags() if at[second] - at[first] < gap])


def conflicts(plan):
    """Return the ascending tuple of the pairs of nodes that conflict."""
    at = node_times(plan)
    return tuple(conflicts_at(at, distances_from(plan, at)))


def before(plan, node):
    """Return the ascending tuple of the nodes that are before a node."""
    check_node(plan, node)
    return tuple([first for first, second in conflicts(plan) if second == node])


def after(plan, node):
    """Return the ascending tuple of the nodes that a node is before."""
    check_node(plan, node)
    return tuple([second for first, second in conflicts(plan) if first == node])


def node_times(plan):
    """Return the dict from the origin and the tasks, in ascending order, to their times."""
    found = {"": 0}
    for name, time in plan.times().items():
        found[name] = time
    return found


def conflicts_at(at, table):
    """Return the list of the pairs of nodes that conflict at some times, in their order, by all distances."""
    return [(first, second) for first in at for second in at if at[second] - at[first] < table[first][second]]


def room_beside(at, table, name, node):
    """Return the least and the greatest time at which a task does not conflict with another node at its time."""
    return (at[node] + table[node][name], at[node] - table[name][node])


def smallest_conflict(pairs, nodes):
    """Return the first one of the ascending pairs of which both nodes are among the given ones, or None."""
    for first, second in pairs:
        if first in nodes and second in nodes:
            return (first, second)
    return None
