"""What stands where in each kind of formula, looked at without the formulas within it."""

from sayso.structures import is_name
from sayso.integers import is_between

MOST_JOINED = 40
LARGEST_GUESS = 3
REL_COUNTS = (0, 1, 2, 3, 4, 5, 6)
OWN_COUNTS = (1, 2, 3, 4, 5, 6)
TC_COUNTS = (2, 4, 6, 8)

LENGTHS = {
    "rel": 3, "eq": 3, "less": 3, "not": 2, "and": 2, "or": 2,
    "some": 3, "all": 3, "lfp": 5, "pfp": 5, "tc": 4, "guess": 4,
}
BODY_AT = {"not": 1, "some": 2, "all": 2, "lfp": 3, "pfp": 3, "tc": 2, "guess": 3}
OWN_AT = {"some": 1, "all": 1, "lfp": 2, "pfp": 2, "tc": 1}
ARGUMENTS_AT = {"rel": 2, "lfp": 4, "pfp": 4, "tc": 3}


def _are_variables(value, counts):
    """Tell whether a value is a tuple of variables, as many as one of the counts."""
    if not isinstance(value, tuple) or len(value) not in counts:
        return False
    return all([is_name(variable) for variable in value])


def are_different(value, counts):
    """Tell whether a value is a tuple of different variables, as many as one of the counts."""
    return _are_variables(value, counts) and len(set(value)) == len(value)


def _is_rel(value):
    return is_name(value[1]) and _are_variables(value[2], REL_COUNTS)


def _is_comparison(value):
    return is_name(value[1]) and is_name(value[2])


def _is_negation(_value):
    return True


def _is_joined(value):
    return isinstance(value[1], tuple) and len(value[1]) <= MOST_JOINED


def _is_quantified(value):
    return are_different(value[1], OWN_COUNTS)


def _is_fixed_point(value):
    if not is_name(value[1]) or not are_different(value[2], OWN_COUNTS):
        return False
    return _are_variables(value[4], (len(value[2]),))


def _is_closure(value):
    return are_different(value[1], TC_COUNTS) and _are_variables(value[3], (len(value[1]),))


def _is_guess(value):
    return is_name(value[1]) and is_between(value[2], 0, LARGEST_GUESS)


TESTS = {
    "rel": _is_rel, "eq": _is_comparison, "less": _is_comparison,
    "not": _is_negation, "and": _is_joined, "or": _is_joined,
    "some": _is_quantified, "all": _is_quantified,
    "lfp": _is_fixed_point, "pfp": _is_fixed_point, "tc": _is_closure, "guess": _is_guess,
}


def is_shape(value):
    """Tell whether a value of any kind is a formula as far as no formula within it matters."""
    if not isinstance(value, tuple) or not value or not isinstance(value[0], str):
        return False
    if LENGTHS.get(value[0]) != len(value):
        return False
    test = TESTS[value[0]]
    return test(value)


def inner(formula):
    """Return the tuple of the formulas directly in a formula."""
    if formula[0] in ("and", "or"):
        return formula[1]
    if formula[0] in BODY_AT:
        return (formula[BODY_AT[formula[0]]],)
    return ()


def _with_item(formula, at, item):
    """Return a formula with another item at an index of its tuple."""
    return formula[:at] + (item,) + formula[at + 1:]


def with_inner(formula, changed):
    """Return a formula in which a list of formulas stands for those directly in it."""
    if formula[0] in ("and", "or"):
        return (formula[0], tuple(changed))
    if formula[0] in BODY_AT:
        return _with_item(formula, BODY_AT[formula[0]], changed[0])
    return formula


def own(formula):
    """Return the variables that a formula binds within it."""
    if formula[0] in OWN_AT:
        return formula[OWN_AT[formula[0]]]
    return ()


def with_own(formula, variables):
    """Return a formula that binds other variables, without a change within it."""
    if formula[0] in OWN_AT:
        return _with_item(formula, OWN_AT[formula[0]], variables)
    return formula


def arguments(formula):
    """Return the variables that stand in a formula as arguments, or beside its sign."""
    if formula[0] in ("eq", "less"):
        return formula[1:]
    if formula[0] in ARGUMENTS_AT:
        return formula[ARGUMENTS_AT[formula[0]]]
    return ()


def with_arguments(formula, variables):
    """Return a formula in which other variables stand as arguments, or beside its sign."""
    if formula[0] in ("eq", "less"):
        return (formula[0],) + variables
    if formula[0] in ARGUMENTS_AT:
        return _with_item(formula, ARGUMENTS_AT[formula[0]], variables)
    return formula


def bound_name(formula):
    """Return the name of a relation that a formula binds within it, or None."""
    if formula[0] in ("lfp", "pfp", "guess"):
        return formula[1]
    return None


def bound_arity(formula):
    """Return the number of arguments of the name that an lfp, a pfp or a guess binds."""
    if formula[0] == "guess":
        return formula[2]
    return len(formula[2])
