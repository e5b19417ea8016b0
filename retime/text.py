"""The text format of plans."""

from retime.cycles import positive_cycle
from retime.errors import ParseError
from retime.plans import LARGEST, Plan, is_integer_within, is_lag, is_name

ORIGIN = "-"
DIGITS = "0123456789"
MOST_DIGITS = 7


def format_plan(plan):
    """Return the text of a plan."""
    lines = [str(plan.horizon)]
    for name, time in plan.times().items():
        lines.append(f"{name} {time}")
    for first, second, gap in plan.lags():
        lines.append(f"{word_of_node(first)} {word_of_node(second)} {gap}")
    return "\n".join(lines)


def parse_plan(text):
    """Return the plan that a text describes."""
    if not isinstance(text, str):
        raise ParseError(0)
    lines = text.split("\n")
    horizon = number_of(lines[0])
    if not is_integer_within(horizon, 0, LARGEST):
        raise ParseError(0)
    times = leading_times(lines[1:], horizon)
    start = 1 + len(times)
    lags = leading_lags(lines[start:], times)
    wrong = start + consistent_count(horizon, times, lags)
    if wrong < len(lines):
        raise ParseError(wrong)
    return Plan(horizon, times, lags)


def leading_times(lines, horizon):
    """Return the times in the lines ahead of the first one that is not a further task."""
    times = {}
    last = ""
    for line in lines:
        words = line.split(" ")
        if len(words) != 2 or not is_name(words[0]) or words[0] <= last:
            return times
        time = number_of(words[1])
        if not is_integer_within(time, 0, horizon):
            return times
        last = words[0]
        times[last] = time
    return times


def leading_lags(lines, times):
    """Return the list of the lags in the lines ahead of the first one that is not a further lag."""
    lags = []
    for line in lines:
        words = line.split(" ")
        if len(words) != 3:
            return lags
        lag = (node_of_word(words[0]), node_of_word(words[1]), number_of(words[2]))
        if not is_lag(lag, times) or (lags and lag <= lags[-1]):
            return lags
        lags.append(lag)
    return lags


def consistent_count(horizon, times, lags):
    """Return how many of the lags, from the first one on, are consistent together."""
    if positive_cycle(horizon, times, lags) is None:
        return len(lags)
    # A further lag never makes inconsistent lags consistent, so halving finds the limit.
    consistent = 0
    inconsistent = len(lags)
    while inconsistent - consistent > 1:
        middle = (consistent + inconsistent) // 2
        if positive_cycle(horizon, times, lags[:middle]) is None:
            consistent = middle
        else:
            inconsistent = middle
    return consistent


def word_of_node(node):
    """Return the word for a node."""
    return ORIGIN if node == "" else node


def node_of_word(word):
    """Return the node for a word, or None for the empty word, which stands for no node."""
    if word == "":
        return None
    return "" if word == ORIGIN else word


def number_of(word):
    """Return the number that a word writes, or None if it writes none of at most seven digits."""
    digits = word[1:] if word.startswith("-") else word
    # The length is limited first, for a text may contain very long words.
    if not 1 <= len(digits) <= MOST_DIGITS or not all([digit in DIGITS for digit in digits]):
        return None
    if digits.startswith("0") and word != "0":
        return None
    return int(word)
