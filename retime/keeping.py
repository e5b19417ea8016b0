"""The times that are left to all tasks if some of them keep theirs."""

from retime.chains import distances_from
from retime.conflicts import conflicts, node_times, smallest_conflict
from retime.errors import CannotKeep, InvalidKept
from retime.plans import is_task_of


def can_keep(plan, kept):
    """Tell whether the kept tasks and the origin are free of conflicts."""
    check_kept(plan, kept)
    return smallest_conflict(conflicts(plan), ["", *kept]) is None


def earliest(plan, kept):
    """Return the dict of the earliest times of all tasks if the kept tasks keep theirs."""
    check_free(plan, kept)
    at = node_times(plan)
    table = distances_from(plan, ["", *kept])
    return {name: max([at[node] + table[node][name] for node in table]) for name in plan.times()}


def latest(plan, kept):
    """Return the dict of the latest times of all tasks if the kept tasks keep theirs."""
    check_free(plan, kept)
    at = node_times(plan)
    table = distances_from(plan, at)
    return {name: min([at[node] - table[name][node] for node in ["", *kept]]) for name in plan.times()}


def check_kept(plan, thing):
    """Raise InvalidKept unless a thing, any object, is a list or tuple of tasks without duplicates."""
    if not are_tasks(thing, plan.times()):
        raise InvalidKept("this is no list or tuple of tasks without duplicates")


def are_tasks(thing, tasks):
    """Tell whether a thing, any object, is a list or tuple of keys of a dict of tasks, each at most once."""
    if not isinstance(thing, (list, tuple)):
        return False
    if not all([is_task_of(item, tasks) for item in thing]):
        return False
    return len(set(thing)) == len(thing)


def check_free(plan, kept):
    """Raise InvalidKept, or CannotKeep if the kept tasks and the origin are not free of conflicts."""
    check_kept(plan, kept)
    pair = smallest_conflict(conflicts(plan), ["", *kept])
    if pair is not None:
        raise CannotKeep(pair)
