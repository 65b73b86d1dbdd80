"""What is counted in a formula that a machine is made of."""

from sayso.shapes import inner
from sayso.shapes import own


def count_of_kinds(formula, words):
    """Return the number of formulas of some kinds in a formula, each counted where it stands."""
    here = 1 if formula[0] in words else 0
    return here + sum([count_of_kinds(part, words) for part in inner(formula)])


def count_of_bound(formula, words):
    """Return the number of variables that formulas of some kinds bind in a formula, each counted where it is bound."""
    here = len(own(formula)) if formula[0] in words else 0
    return here + sum([count_of_bound(part, words) for part in inner(formula)])


def is_denied(formula, word, negated):
    """Tell whether a formula of a kind stands in an odd number of "not"; negated tells whether one is round it all."""
    if formula[0] == word and negated:
        return True
    within = negated != (formula[0] == "not")
    return any([is_denied(part, word, within) for part in inner(formula)])
