"""What a formula means in a structure, and what it costs to find out."""

from sayso.errors import BadArgument
from sayso.errors import NotFitting
from sayso.errors import TooLarge
from sayso.evaluation import all_rows
from sayso.evaluation import row_test
from sayso.evaluation import scope_of
from sayso.formulas import check_formula
from sayso.formulas import free
from sayso.formulas import symbols
from sayso.integers import is_between
from sayso.integers import power
from sayso.shapes import bound_arity
from sayso.shapes import inner
from sayso.shapes import own
from sayso.structures import LARGEST_SIZE
from sayso.structures import MOST_ROWS
from sayso.structures import is_name

LARGEST_COST = 10 ** 9
MOST_COST = 3 * 10 ** 6
MOST_TRIED_ROWS = 12
# 2 to this power is more than the largest cost.
ENOUGH_DOUBLINGS = 30


def doublings(count):
    """Return 2 to the power of a count, or a number beyond the largest cost."""
    return power(2, min(count, ENOUGH_DOUBLINGS))


def _repetitions(formula, n):
    """Return by how much the cost of what stands directly in a formula is multiplied."""
    count = power(n, len(own(formula)))
    if formula[0] == "lfp":
        return count * count
    if formula[0] == "pfp":
        return doublings(count) * count
    if formula[0] == "guess":
        return doublings(power(n, formula[2]))
    return count


def known_cost(formula, n):
    """Return the cost of what is known to be a formula."""
    within = sum([known_cost(part, n) for part in inner(formula)])
    # The costs grow with those within, so it makes no difference that these are cut off at the largest one, too.
    return min(1 + _repetitions(formula, n) * within, LARGEST_COST)


def cost(formula, n):
    """Return the cost of a formula for n elements."""
    check_formula(formula)
    if not is_between(n, 1, LARGEST_SIZE):
        raise BadArgument("the number of elements is an integer from 1 to 16")
    return known_cost(formula, n)


def _check_tried(formula, n):
    """Raise TooLarge if a pfp or a guess in a formula has too many relations to try."""
    if formula[0] in ("pfp", "guess") and power(n, bound_arity(formula)) > MOST_TRIED_ROWS:
        raise TooLarge("a pfp or a guess has too many tuples")
    for part in inner(formula):
        _check_tried(part, n)


def check_work(formula, n):
    """Raise TooLarge if a formula is too much to be evaluated for n elements."""
    if known_cost(formula, n) > MOST_COST:
        raise TooLarge("the cost of the formula is too large")
    # An lfp with more than 4096 tuples, or a tc with more than 4096 halves of tuples, costs more than their square.
    _check_tried(formula, n)


def check_symbols(needed, structure):
    """Raise NotFitting unless a structure has each of the needed pairs (name, arity)."""
    present = structure.symbols()
    for symbol in needed:
        if symbol not in present:
            raise NotFitting("the structure lacks a symbol")


def holds(formula, structure, values):
    """Tell whether a formula holds in a structure with these elements for its free variables."""
    variables = free(formula)
    if not isinstance(values, dict):
        raise BadArgument("the values are a dictionary")
    row = tuple([values.get(variable) for variable in variables])
    for element in row:
        if not is_between(element, 0, structure.size - 1):
            raise BadArgument("each free variable has an element")
    check_symbols(symbols(formula), structure)
    check_work(formula, structure.size)
    holds_for = row_test(formula, variables, scope_of(structure))
    return holds_for(row)


def _check_variables(variables, needed):
    """Raise BadArgument unless variables are a list of different variables with all that are needed."""
    if not isinstance(variables, list) or not all([is_name(variable) for variable in variables]):
        raise BadArgument("the variables are a list of names")
    if len(set(variables)) != len(variables):
        raise BadArgument("the variables are different")
    for variable in needed:
        if variable not in variables:
            raise BadArgument("the variables contain all free ones")


def query(formula, structure, variables):
    """Return the ascending list of the tuples of elements, in the order of variables, for which a formula holds."""
    _check_variables(variables, free(formula))
    check_symbols(symbols(formula), structure)
    check_work(formula, structure.size)
    count = power(structure.size, len(variables))
    if count > MOST_ROWS or count * known_cost(formula, structure.size) > MOST_COST:
        raise TooLarge("the tuples are too many to be tried")
    holds_for = row_test(formula, variables, scope_of(structure))
    return [row for row in all_rows(structure.size, len(variables)) if holds_for(row)]
