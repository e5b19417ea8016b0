"""Plans: a horizon, the times of tasks, and lags between them."""

from retime.cycles import positive_cycle
from retime.errors import InconsistentLags, InvalidPlan, UnknownName

LARGEST = 1000000
LONGEST_NAME = 8
LETTERS = "abcdefghijklmnopqrstuvwxyz"


def is_name(thing):
    """Tell whether a thing, any object, is a name."""
    if not isinstance(thing, str) or not 1 <= len(thing) <= LONGEST_NAME:
        return False
    return all([letter in LETTERS for letter in thing])


def is_integer_within(thing, low, high):
    """Tell whether a thing, any object, is an integer from low to high."""
    if not isinstance(thing, int) or isinstance(thing, bool):
        return False
    return low <= thing <= high


def are_times(thing, horizon):
    """Tell whether a thing, any object, is a dict from names to times."""
    if not isinstance(thing, dict):
        return False
    return all([is_name(name) and is_integer_within(thing[name], 0, horizon) for name in thing])


def is_task_of(thing, tasks):
    """Tell whether a thing, any object, is one of the tasks of a dict."""
    # Only strings are looked up, for other objects may have no place in a dict.
    return isinstance(thing, str) and thing in tasks


def is_node_of(thing, tasks):
    """Tell whether a thing, any object, is the origin or one of the tasks of a dict."""
    return thing == "" or is_task_of(thing, tasks)


def is_lag(thing, tasks):
    """Tell whether a thing, any object, is a lag between the origin and the tasks of a dict."""
    if not isinstance(thing, tuple) or len(thing) != 3:
        return False
    first, second, gap = thing
    if not is_node_of(first, tasks) or not is_node_of(second, tasks):
        return False
    return first != second and is_integer_within(gap, -LARGEST, LARGEST)


def form_plan(horizon, times, lags):
    """Tell whether three things, any objects, form a plan, consistent or not."""
    if not is_integer_within(horizon, 0, LARGEST) or not are_times(times, horizon):
        return False
    if not isinstance(lags, (list, tuple)):
        return False
    return all([is_lag(lag, times) for lag in lags])


class Plan:
    """A horizon, a time for each task, and consistent lags."""

    def __init__(self, horizon, times, lags=()):
        if not form_plan(horizon, times, lags):
            raise InvalidPlan("the arguments do not form a plan")
        cycle = positive_cycle(horizon, times, lags)
        if cycle is not None:
            raise InconsistentLags(cycle)
        self.horizon = horizon
        self._times = {name: times[name] for name in sorted(times)}
        self._lags = tuple(sorted(set(lags)))

    def times(self):
        """Return a new dict from the tasks, in ascending order, to their times."""
        return dict(self._times)

    def time(self, name):
        """Return the time of a task."""
        if not is_task_of(name, self._times):
            raise UnknownName("the plan has no such task")
        return self._times[name]

    def lags(self):
        """Return the ascending tuple of the plan's own lags."""
        return self._lags

    def __len__(self):
        return len(self._times)

    def __eq__(self, other):
        if not isinstance(other, Plan):
            return False
        return self.horizon == other.horizon and self._times == other._times and self._lags == other._lags


def copy_of(plan):
    """Return an equal plan, on which later changes to the given one have no effect."""
    return Plan(plan.horizon, plan.times(), plan.lags())
