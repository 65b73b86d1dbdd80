"""Other forms of a formula, with the same meaning or with one that is told."""

from sayso.errors import BadArgument
from sayso.errors import BadFormula
from sayso.errors import TooLarge
from sayso.formulas import MOST_PARTS
from sayso.formulas import check_formula
from sayso.formulas import free
from sayso.formulas import is_first_order
from sayso.formulas import parts
from sayso.formulas import symbols
from sayso.formulas import variables_in
from sayso.formulas import within_bounds
from sayso.renaming import Names
from sayso.renaming import renamed
from sayso.renaming import with_rels
from sayso.shapes import OWN_COUNTS
from sayso.shapes import REL_COUNTS
from sayso.shapes import are_different
from sayso.shapes import bound_name
from sayso.shapes import inner
from sayso.shapes import own
from sayso.shapes import with_inner
from sayso.structures import is_name

# What a word becomes when "not" goes from before it to the formulas directly in it.
TURNED = {"and": "or", "or": "and", "some": "all", "all": "some"}


def _moved_inward(formula, negated):
    """Return a formula, or the negation of it, with negations moved inward."""
    if formula[0] == "not":
        return _moved_inward(formula[1], not negated)
    if formula[0] in TURNED:
        found = with_inner(formula, [_moved_inward(part, negated) for part in inner(formula)])
        return (TURNED[formula[0]],) + found[1:] if negated else found
    found = with_inner(formula, [_moved_inward(part, False) for part in inner(formula)])
    return ("not", found) if negated else found


def inward(formula):
    """Return a formula with negations moved inward as far as they can."""
    check_formula(formula)
    return within_bounds(_moved_inward(formula, False))


def apart(formula):
    """Return a formula in which no variable is bound twice, and none both bound and free."""
    source = Names(free(formula), variables_in(formula))
    return renamed(formula, {}, source)


def _pulled_out(formula, negated):
    """Return what some and all bind in a formula, or in its negation, and the formula without them.

    The first is a list of pairs of a word and a variable, the outermost first.
    """
    if formula[0] in ("some", "all"):
        prefix, rest = _pulled_out(formula[2], negated)
        word = TURNED[formula[0]] if negated else formula[0]
        return [(word, variable) for variable in own(formula)] + prefix, rest
    prefix = []
    rests = []
    for part in inner(formula):
        pairs, rest = _pulled_out(part, negated != (formula[0] == "not"))
        prefix.extend(pairs)
        rests.append(rest)
    return prefix, with_inner(formula, rests)


def _blocks(prefix):
    """Return a list of pairs of a word and as many variables as one formula with this word may bind."""
    found = []
    for word, variable in prefix:
        if found and found[-1][0] == word and len(found[-1][1]) < max(OWN_COUNTS):
            found[-1] = (word, found[-1][1] + (variable,))
        else:
            found.append((word, (variable,)))
    return found


def prenex(formula):
    """Return a formula of some and all with none of these in the innermost one."""
    if not is_first_order(formula):
        raise BadArgument("the formula is not first-order")
    prefix, found = _pulled_out(apart(formula), False)
    for word, variables in reversed(_blocks(prefix)):
        found = (word, variables, found)
    return within_bounds(found)


def _names_round(formula, name):
    """Return a list that has, for each occurrence of a name, the list of the names that are bound round it."""
    if formula[0] == "rel":
        return [[]] if formula[1] == name else []
    bound = bound_name(formula)
    if bound == name:
        return []
    here = [] if bound is None else [bound]
    return [names + here for part in inner(formula) for names in _names_round(part, name)]


def _check_body(formula, name, variables, body, bound_round):
    """Raise BadFormula if a body cannot stand for the occurrences of a name in a formula."""
    arities = dict(symbols(formula))
    if arities.get(name, len(variables)) != len(variables):
        raise BadFormula("the name has another number of arguments")
    for variable in free(body):
        if variable not in variables:
            raise BadFormula("a variable of the body is not in the list")
    for other, arity in symbols(body):
        if other != name and arities.get(other, arity) != arity:
            raise BadFormula("a symbol of the body has another number of arguments in the formula")
        if other in bound_round:
            raise BadFormula("a symbol of the body is bound round an occurrence of the name")


def replaced(formula, name, variables, body):
    """Return a formula that holds where the first one holds with the relation that a body tells for the name."""
    check_formula(formula)
    check_formula(body)
    if not is_name(name) or not are_different(variables, REL_COUNTS):
        raise BadArgument("a name and a tuple of at most 6 different variables are needed")
    occurrences = _names_round(formula, name)
    bound_round = [bound for names in occurrences for bound in names]
    _check_body(formula, name, variables, body, {bound: True for bound in bound_round})
    # Without this, 2000 parts could become as many as 4000000 before they are counted.
    if parts(formula) + len(occurrences) * (parts(body) - 1) > MOST_PARTS:
        raise TooLarge("the formula that would be made has too many parts")
    outer = variables_in(formula)
    source = Names(outer, list(outer) + list(variables_in(body)))
    makers = {name: lambda passed: renamed(body, dict(zip(variables, passed)), source)}
    return within_bounds(with_rels(formula, makers))
