"""What is a formula, and what can be told of it without a structure."""

from sayso.errors import BadFormula
from sayso.errors import BadText
from sayso.errors import TooLarge
from sayso.shapes import arguments
from sayso.shapes import bound_arity
from sayso.shapes import bound_name
from sayso.shapes import inner
from sayso.shapes import is_shape
from sayso.shapes import own
from sayso.wording import formula_text
from sayso.wording import read_text

MOST_PARTS = 2000
MOST_DEEP = 40


def _check_shapes(value, levels_left, parts_left):
    """Check the kinds of all formulas in a value, and return how many parts may still come."""
    # The bounds are looked at on the way: a value may be nested too deep, or be too large, to be gone through.
    if levels_left < 1 or parts_left < 1:
        raise BadFormula("a formula has too many parts or levels")
    if not is_shape(value):
        raise BadFormula("there is no such kind of formula")
    parts_left -= 1
    for part in inner(value):
        parts_left = _check_shapes(part, levels_left - 1, parts_left)
    return parts_left


def arities_in(formula):
    """Return the dictionary from the symbols of a formula to their arities, and check that these agree."""
    if formula[0] == "rel":
        return {formula[1]: len(formula[2])}
    found = {}
    for part in inner(formula):
        within = arities_in(part)
        for name in within:
            if found.setdefault(name, within[name]) != within[name]:
                raise BadFormula("a name has two numbers of arguments")
    bound = bound_name(formula)
    if bound in found:
        if found.pop(bound) != bound_arity(formula):
            raise BadFormula("a bound name has another number of arguments")
    return found


def is_positive_in(formula, name, sign):
    """Tell whether a formula is positive in a name.

    The sign is 1 below an even number of "not", -1 below an odd one, and 0 in a pfp.
    """
    if formula[0] == "rel":
        return sign == 1 or formula[1] != name
    if bound_name(formula) == name:
        return True
    if formula[0] == "not":
        sign = -sign
    if formula[0] == "pfp":
        sign = 0
    for part in inner(formula):
        if not is_positive_in(part, name, sign):
            return False
    return True


def _check_fixed_points(formula):
    """Check that the formula within each lfp is positive in its name."""
    if formula[0] == "lfp" and not is_positive_in(formula[3], formula[1], 1):
        raise BadFormula("the formula within an lfp is not positive in its name")
    for part in inner(formula):
        _check_fixed_points(part)


def check_formula(formula):
    """Return None, or raise BadFormula for a value of any kind that is not a formula."""
    _check_shapes(formula, MOST_DEEP, MOST_PARTS)
    arities_in(formula)
    _check_fixed_points(formula)


def within_bounds(formula):
    """Return a formula that the program made, or raise TooLarge if a bound makes it none."""
    try:
        check_formula(formula)
    except BadFormula:
        raise TooLarge("the formula that would be made is beyond a bound") from None
    return formula


def _free(formula):
    """Return the dictionary whose keys are the free variables of a formula."""
    found = {variable: True for variable in arguments(formula)}
    for part in inner(formula):
        for variable in _free(part):
            if variable not in own(formula):
                found[variable] = True
    return found


def free(formula):
    """Return the free variables of a formula in ascending order."""
    check_formula(formula)
    return sorted(_free(formula))


def symbols(formula):
    """Return the list of pairs (name, arity) of the symbols of a formula in ascending order."""
    check_formula(formula)
    return sorted(arities_in(formula).items())


def positive(formula, name):
    """Tell whether a formula is positive in a name."""
    check_formula(formula)
    return is_positive_in(formula, name, 1)


def _parts(formula):
    return 1 + sum([_parts(part) for part in inner(formula)])


def parts(formula):
    """Return the number of parts of a formula."""
    check_formula(formula)
    return _parts(formula)


def _depth(formula):
    return 1 + max([_depth(part) for part in inner(formula)], default=0)


def depth(formula):
    """Return how deep a formula is nested."""
    check_formula(formula)
    return _depth(formula)


def _rank(formula):
    return len(own(formula)) + max([_rank(part) for part in inner(formula)], default=0)


def rank(formula):
    """Return the greatest number of variables bound within one another in a formula."""
    check_formula(formula)
    return _rank(formula)


def variables_in(formula):
    """Return the dictionary whose keys are the variables that occur in a formula."""
    found = {variable: True for variable in own(formula) + arguments(formula)}
    for part in inner(formula):
        for variable in variables_in(part):
            found[variable] = True
    return found


def names_in(formula):
    """Return the dictionary whose keys are the names of relations in a formula, bound ones among them."""
    found = {}
    if formula[0] == "rel":
        found[formula[1]] = True
    if bound_name(formula) is not None:
        found[bound_name(formula)] = True
    for part in inner(formula):
        for name in names_in(part):
            found[name] = True
    return found


def width(formula):
    """Return the number of different variables that occur in a formula."""
    check_formula(formula)
    return len(variables_in(formula))


def _is_first_order(formula):
    if formula[0] in ("lfp", "pfp", "tc", "guess"):
        return False
    return all([_is_first_order(part) for part in inner(formula)])


def is_first_order(formula):
    """Tell whether a formula contains no lfp, pfp, tc and guess."""
    check_formula(formula)
    return _is_first_order(formula)


def format_formula(formula):
    """Return the textual form of a formula."""
    check_formula(formula)
    return formula_text(formula)


def parse_formula(text):
    """Return the formula of a textual form, or raise BadText."""
    found = read_text(text, MOST_DEEP)
    try:
        check_formula(found)
    except BadFormula:
        raise BadText("the text tells of what is not a formula") from None
    return found
