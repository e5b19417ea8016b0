"""The commands of a registry, and the state that they change."""

from retime.chains import check_task
from retime.edits import apply_edits
from retime.errors import DuplicateName, InvalidName, InvalidPrices, UnknownMark, UnknownName
from retime.plans import Plan, is_name
from retime.prices import is_price
from retime.repairs import repair_holding


class State:
    """Plans by name, each with its prices and the amount spent, and the plans that marks have recorded."""

    def __init__(self):
        # Each entry is a tuple (plan, prices, amount), of which no part is ever modified.
        self.entries = {}
        self.marks = {}

    def twin(self):
        """Return an independent state with the same content."""
        other = State()
        other.entries = dict(self.entries)
        other.marks = dict(self.marks)
        return other

    def entry(self, name):
        """Return the plan, the prices and the amount of a name, any object."""
        if not isinstance(name, str) or name not in self.entries:
            raise UnknownName("there is no plan of this name")
        return self.entries[name]


def is_command(thing):
    """Tell whether a thing, any object, is a tuple of the name of a command and as many arguments as it has."""
    if not isinstance(thing, tuple) or len(thing) == 0:
        return False
    word = thing[0]
    return isinstance(word, str) and word in COUNTS and len(thing) == 1 + COUNTS[word]


def check_new(thing, known):
    """Raise InvalidName unless a thing, any object, is a name, and DuplicateName if it is a key of a dict."""
    if not is_name(thing):
        raise InvalidName("this is no name")
    if thing in known:
        raise DuplicateName("this name is taken")


def create_plan(state, name, horizon):
    """Add a plan without tasks."""
    check_new(name, state.entries)
    state.entries[name] = (Plan(horizon, {}), {}, 0)


def set_price(state, name, task, amount):
    """Set the price of a task, or make it firm if the amount is None."""
    plan, prices, spent = state.entry(name)
    check_task(plan, task)
    if amount is not None and not is_price(amount):
        raise InvalidPrices("this is no price")
    changed = {other: prices[other] for other in prices if other != task}
    if amount is not None:
        changed[task] = amount
    state.entries[name] = (plan, changed, spent)


def update_plan(state, name, edits, hold):
    """Apply edits to a plan, repair it, and return the price."""
    plan, prices, spent = state.entry(name)
    changed = apply_edits(plan, edits)
    dropped = [edit[1] for edit in edits if edit[0] == "drop"]
    left = {task: prices[task] for task in prices if task not in dropped}
    price, repaired = repair_holding(changed, left, hold)
    state.entries[name] = (repaired, left, spent + price)
    return price


def remove_plan(state, name):
    """Remove a plan."""
    state.entry(name)
    del state.entries[name]


def set_mark(state, label):
    """Record all plans, prices and amounts."""
    check_new(label, state.marks)
    state.marks[label] = dict(state.entries)


def restore(state, label):
    """Restore what a mark has recorded."""
    if not isinstance(label, str) or label not in state.marks:
        raise UnknownMark("there is no mark of this label")
    state.entries = dict(state.marks[label])


# The number of arguments of each command, and the function that executes it.
COUNTS = {"create": 2, "price": 3, "update": 3, "remove": 1, "mark": 1, "back": 1}
ACTIONS = {
    "create": create_plan,
    "price": set_price,
    "update": update_plan,
    "remove": remove_plan,
    "mark": set_mark,
    "back": restore,
}
