"""What stands where in each kind of condition and action of a machine."""

from sayso.integers import is_between
from sayso.structures import LARGEST_ARITY
from sayso.structures import is_name

CONDITION_LENGTHS = {"rel": 4, "eq": 4, "less": 4, "last": 3, "mark": 4}
ACTION_LENGTHS = {"up": 2, "down": 2, "zero": 2, "copy": 3, "write": 4}


def _has_word(value):
    """Tell whether a value of any kind is a tuple that begins with a text."""
    return isinstance(value, tuple) and len(value) > 0 and isinstance(value[0], str)


def _are_heads(values, heads):
    """Tell whether all values are heads."""
    return all([is_between(value, 0, heads - 1) for value in values])


def _is_cell(tape, places, heads, tapes):
    """Tell whether there is such a tape, and places are a tuple of as many heads as its arity."""
    if not is_between(tape, 0, len(tapes) - 1) or not isinstance(places, tuple):
        return False
    return len(places) == tapes[tape] and _are_heads(places, heads)


def is_condition(value, heads, tapes):
    """Tell whether a value of any kind is a condition of a machine with so many heads and these tapes."""
    if not _has_word(value) or CONDITION_LENGTHS.get(value[0]) != len(value) or not isinstance(value[-1], bool):
        return False
    if value[0] == "rel":
        if not is_name(value[1]) or not isinstance(value[2], tuple) or len(value[2]) > LARGEST_ARITY:
            return False
        return _are_heads(value[2], heads)
    if value[0] == "mark":
        return _is_cell(value[1], value[2], heads, tapes)
    return _are_heads(value[1:-1], heads)


def is_action(value, heads, tapes):
    """Tell whether a value of any kind is an action of a machine with so many heads and these tapes."""
    if not _has_word(value) or ACTION_LENGTHS.get(value[0]) != len(value):
        return False
    if value[0] == "write":
        return isinstance(value[3], bool) and _is_cell(value[1], value[2], heads, tapes)
    return _are_heads(value[1:], heads)


def rules_by_state(rules):
    """Return the dictionary from states to the lists of pairs (index, rule) of their rules, ascending."""
    found = {}
    for index, rule in enumerate(rules):
        found.setdefault(rule[0], []).append((index, rule))
    return found
