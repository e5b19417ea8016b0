"""Plans by name, with prices, marks and a log of the commands."""

from retime.commands import ACTIONS, State, is_command
from retime.errors import InvalidCommand, RetimeError
from retime.plans import copy_of


class Registry:
    """Plans by name, each with prices and an amount spent."""

    def __init__(self):
        self._state = State()
        self._log = []

    def create(self, name, horizon):
        """Add a plan without tasks, with empty prices."""
        self._execute("create", (name, horizon))

    def price(self, name, task, amount):
        """Set the price of a task, or make it firm if the amount is None."""
        self._execute("price", (name, task, amount))

    def update(self, name, edits, hold):
        """Apply edits to a plan, repair it, and return the price."""
        return self._execute("update", (name, edits, hold))

    def remove(self, name):
        """Remove a plan."""
        self._execute("remove", (name,))

    def mark(self, label):
        """Record all plans, prices and amounts."""
        self._execute("mark", (label,))

    def back(self, label):
        """Restore what a mark has recorded."""
        self._execute("back", (label,))

    def batch(self, commands):
        """Execute a list of commands and return the list of their results; have no effect if one fails."""
        self._log.append("batch")
        before = self._state.twin()
        try:
            results = self._execute_all(commands)
        except RetimeError:
            self._state = before
            self._log.append("failed")
            raise
        self._log.append("done")
        return results

    def names(self):
        """Return the ascending list of the names of the plans."""
        return sorted(self._state.entries)

    def plan(self, name):
        """Return a plan."""
        plan, _, _ = self._state.entry(name)
        return copy_of(plan)

    def prices(self, name):
        """Return the dict of the prices of a plan."""
        _, prices, _ = self._state.entry(name)
        return {task: prices[task] for task in sorted(prices)}

    def spent(self, name):
        """Return the sum of the prices of the updates of a plan."""
        _, _, amount = self._state.entry(name)
        return amount

    def log(self):
        """Return the list of the commands, each with its name and how it ended."""
        return list(self._log)

    def copy(self):
        """Return an independent registry with the same content and an empty log."""
        other = Registry()
        other._state = self._state.twin()
        return other

    def _execute(self, word, arguments):
        """Execute a command, write it into the log, and return its result."""
        action = ACTIONS[word]
        self._log.append(word)
        try:
            result = action(self._state, *arguments)
        except RetimeError:
            self._log.append("failed")
            raise
        self._log.append("done")
        return result

    def _execute_all(self, commands):
        """Execute commands, any object, and return the list of their results."""
        if not isinstance(commands, list):
            raise InvalidCommand("a batch is a list")
        results = []
        for command in commands:
            if not is_command(command):
                raise InvalidCommand("an item of the batch is no command")
            results.append(self._execute(command[0], command[1:]))
        return results
