"""The search for a cycle of lags with a positive total."""


def greatest_gaps(horizon, tasks, lags):
    """Return the dict from pairs of nodes to the gap that counts, implicit lags included."""
    gaps = {}
    for task in tasks:
        gaps[("", task)] = 0
        gaps[(task, "")] = -horizon
    for first, second, gap in lags:
        pair = (first, second)
        gaps[pair] = max(gap, gaps.get(pair, gap))
    return gaps


def positive_cycle(horizon, tasks, lags):
    """Return the nodes of any cycle with a positive total, in order, or None."""
    gaps = greatest_gaps(horizon, tasks, lags)
    reached = {"": 0}
    for task in tasks:
        reached[task] = 0
    previous = {}
    # A chain without repetitions has fewer lags than there are nodes, so without
    # a positive cycle the values settle within as many rounds as there are nodes.
    for _ in range(len(reached)):
        raised = None
        for (first, second), gap in gaps.items():
            if reached[first] + gap > reached[second]:
                reached[second] = reached[first] + gap
                previous[second] = first
                raised = second
        if raised is None:
            return None
    return cycle_behind(raised, previous)


def cycle_behind(node, previous):
    """Return the cycle that the steps back from a node lead into, in forward order."""
    # After this many steps the walk has left the nodes outside of the cycle.
    for _ in range(len(previous)):
        node = previous[node]
    cycle = [node]
    back = previous[node]
    while back != node:
        cycle.append(back)
        back = previous[back]
    return tuple(reversed(cycle))
