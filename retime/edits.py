"""Edits of plans."""

from retime.errors import InvalidEdit
from retime.plans import Plan, is_integer_within, is_lag, is_name, is_task_of


class Draft:
    """The parts of a plan while it is edited; its lags may be inconsistent."""

    def __init__(self, plan):
        self.horizon = plan.horizon
        self.tasks = plan.times()
        self.own = list(plan.lags())


def apply_edits(plan, edits):
    """Return the plan after a list or tuple of edits, in order."""
    if not isinstance(edits, (list, tuple)):
        raise InvalidEdit(0)
    draft = Draft(plan)
    for index, edit in enumerate(edits):
        if not is_applied(draft, edit):
            raise InvalidEdit(index)
    return Plan(draft.horizon, draft.tasks, draft.own)


def is_applied(draft, edit):
    """Apply an edit, any object, to a draft if it is one that the draft can take; tell whether it is."""
    if not isinstance(edit, tuple) or len(edit) == 0:
        return False
    word = edit[0]
    if not isinstance(word, str) or word not in LENGTHS or len(edit) != LENGTHS[word]:
        return False
    action = ACTIONS[word]
    return action(draft, edit)


def add_task(draft, edit):
    """Add a task if the draft can take it; tell whether it can."""
    _, name, time = edit
    if not is_name(name) or name in draft.tasks or not is_integer_within(time, 0, draft.horizon):
        return False
    draft.tasks[name] = time
    return True


def drop_task(draft, edit):
    """Remove a task and all its lags if the draft has it; tell whether it has."""
    _, name = edit
    if not is_task_of(name, draft.tasks):
        return False
    del draft.tasks[name]
    draft.own = [lag for lag in draft.own if name not in lag]
    return True


def set_time(draft, edit):
    """Change the time of a task if the draft can take it; tell whether it can."""
    _, name, time = edit
    if not is_task_of(name, draft.tasks) or not is_integer_within(time, 0, draft.horizon):
        return False
    draft.tasks[name] = time
    return True


def add_lag(draft, edit):
    """Add a lag if the draft can take it; tell whether it can."""
    lag = edit[1:]
    if not is_lag(lag, draft.tasks) or lag in draft.own:
        return False
    draft.own.append(lag)
    return True


def remove_lag(draft, edit):
    """Remove a lag if the draft has it; tell whether it has."""
    lag = edit[1:]
    # An equal tuple may be no lag: True is equal to 1.
    if not is_lag(lag, draft.tasks) or lag not in draft.own:
        return False
    draft.own = [other for other in draft.own if other != lag]
    return True


LENGTHS = {"task": 3, "drop": 2, "time": 3, "lag": 4, "unlag": 4}
ACTIONS = {"task": add_task, "drop": drop_task, "time": set_time, "lag": add_lag, "unlag": remove_lag}
