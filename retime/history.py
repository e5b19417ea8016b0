"""The versions of a plan."""

from retime.edits import apply_edits
from retime.errors import UnknownVersion
from retime.plans import copy_of, is_integer_within
from retime.repairs import repair_holding


class History:
    """A plan and the repaired plans after each update of it."""

    def __init__(self, plan):
        self._versions = [copy_of(plan)]
        self._total = 0

    def update(self, edits, prices, hold=()):
        """Apply edits to the latest version, add the repaired plan as a new one, and return the price."""
        changed = apply_edits(self._versions[-1], edits)
        price, repaired = repair_holding(changed, prices, hold)
        self._versions.append(repaired)
        self._total += price
        return price

    def plan(self, version=None):
        """Return a version, by default the latest one."""
        if version is None:
            return copy_of(self._versions[-1])
        self._check_version(version)
        return copy_of(self._versions[version])

    def moved(self, first, second):
        """Return the ascending tuple of the tasks that have different times in two versions."""
        self._check_version(first)
        self._check_version(second)
        one = self._versions[first].times()
        other = self._versions[second].times()
        return tuple([name for name in one if name in other and one[name] != other[name]])

    def spent(self):
        """Return the sum of all prices."""
        return self._total

    def copy(self):
        """Return an independent history in the same state."""
        other = History(self._versions[0])
        other._versions = list(self._versions)
        other._total = self._total
        return other

    def __len__(self):
        return len(self._versions)

    def _check_version(self, thing):
        """Raise UnknownVersion unless a thing, any object, is a version."""
        if not is_integer_within(thing, 0, len(self._versions) - 1):
            raise UnknownVersion("the history has no such version")
