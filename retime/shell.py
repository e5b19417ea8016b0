"""Lines of words that a registry executes."""

from retime.chains import distance
from retime.errors import InvalidLine
from retime.registry import Registry
from retime.slack import slack
from retime.text import format_plan, node_of_word, number_of

# What stands behind the first word of each line.
FORMS = {
    "create": ("name", "number"),
    "remove": ("name",),
    "mark": ("name",),
    "back": ("name",),
    "price": ("name", "name", "amount"),
    "task": ("name", "name", "number"),
    "drop": ("name", "name"),
    "time": ("name", "name", "number"),
    "lag": ("name", "node", "node", "gap"),
    "unlag": ("name", "node", "node", "gap"),
    "show": ("name",),
    "distance": ("name", "node", "node"),
    "slack": ("name", "name"),
    "spent": ("name",),
    "names": (),
}
EDITS = ("task", "drop", "time", "lag", "unlag")
HOLDING = ("task", "time")


class Shell:
    """A registry that is used by lines of words."""

    def __init__(self):
        self._registry = Registry()

    def run(self, line):
        """Execute a line and return what it answers."""
        word, arguments = read_line(line)
        if word in EDITS:
            return edit_plan(self._registry, word, arguments)
        action = ACTIONS[word]
        return action(self._registry, *arguments)


def read_line(line):
    """Return the first word of a line, any object, and the tuple of the arguments behind it."""
    if not isinstance(line, str):
        raise InvalidLine("a line is a string")
    words = line.split(" ")
    if "" in words or words[0] not in FORMS:
        raise InvalidLine("no line begins like this, or a word is empty")
    form = FORMS[words[0]]
    if len(words) != 1 + len(form):
        raise InvalidLine("a line of this kind has another number of words")
    return (words[0], tuple([argument_of(kind, word) for kind, word in zip(form, words[1:])]))


def argument_of(kind, word):
    """Return what a word stands for in a place of some kind."""
    if kind == "name":
        return word
    if kind == "node":
        return node_of_word(word)
    if kind == "amount" and word == "firm":
        return None
    number = number_of(word)
    if number is None or (kind != "gap" and word.startswith("-")):
        raise InvalidLine("a word is no number of this kind")
    return number


def edit_plan(registry, word, arguments):
    """Update a plan with one edit; the task that gets a time is held."""
    name = arguments[0]
    hold = [arguments[1]] if word in HOLDING else []
    return str(registry.update(name, [(word,) + arguments[1:]], hold))


def create_plan(registry, name, horizon):
    """Add a plan without tasks."""
    registry.create(name, horizon)
    return "ok"


def remove_plan(registry, name):
    """Remove a plan."""
    registry.remove(name)
    return "ok"


def set_mark(registry, label):
    """Record all plans, prices and amounts."""
    registry.mark(label)
    return "ok"


def restore(registry, label):
    """Restore what a mark has recorded."""
    registry.back(label)
    return "ok"


def set_price(registry, name, task, amount):
    """Set the price of a task, or make it firm."""
    registry.price(name, task, amount)
    return "ok"


def show_plan(registry, name):
    """Return the text of a plan in one line."""
    return format_plan(registry.plan(name)).replace("\n", " / ")


def show_distance(registry, name, first, second):
    """Return the distance between two nodes of a plan."""
    return str(distance(registry.plan(name), first, second))


def show_slack(registry, name, task):
    """Return the two times of the slack of a task, which exist, for a plan of a registry has no conflicts."""
    low, high = slack(registry.plan(name), task)
    return f"{low} {high}"


def show_spent(registry, name):
    """Return the amount spent for a plan."""
    return str(registry.spent(name))


def show_names(registry):
    """Return the names of all plans."""
    return " ".join(registry.names()) or "-"


ACTIONS = {
    "create": create_plan,
    "remove": remove_plan,
    "mark": set_mark,
    "back": restore,
    "price": set_price,
    "show": show_plan,
    "distance": show_distance,
    "slack": show_slack,
    "spent": show_spent,
    "names": show_names,
}
