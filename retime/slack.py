"""The times that a task may have if all others keep theirs."""

from retime.chains import check_task, distances_from
from retime.conflicts import node_times, room_beside


def slack(plan, name):
    """Return the least and the greatest time at which a task conflicts with no other node, or None."""
    check_task(plan, name)
    at = node_times(plan)
    return slack_by(at, distances_from(plan, at), name)


def fixed(plan):
    """Return the ascending tuple of the tasks for which both times of the slack are equal."""
    found = slack_of_all(plan)
    return tuple([name for name in found if found[name] is not None and found[name][0] == found[name][1]])


def displaced(plan):
    """Return the ascending tuple of the tasks whose own time is outside of their slack or which have none."""
    found = slack_of_all(plan)
    return tuple([name for name in found if not is_inside(plan.time(name), found[name])])


def slack_of_all(plan):
    """Return the dict from the tasks, in ascending order, to their slack."""
    at = node_times(plan)
    table = distances_from(plan, at)
    return {name: slack_by(at, table, name) for name in plan.times()}


def slack_by(at, table, name):
    """Return the slack of a task by the times of all nodes and the table of all distances."""
    rooms = [room_beside(at, table, name, node) for node in at if node != name]
    low = max([room[0] for room in rooms])
    high = min([room[1] for room in rooms])
    return (low, high) if low <= high else None


def is_inside(time, times):
    """Tell whether a time is in a slack."""
    return times is not None and times[0] <= time <= times[1]
