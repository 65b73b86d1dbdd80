"""Sentences for machines, and what is counted in them."""

from fitting import Maker
from fitting import symbol_names
from samples import FALSE
from samples import TRUE
from samples import nested
from samples import own
from samples import told_free
from samples import ways

PLAIN_KINDS = ["rel", "rel", "eq", "less", "not", "and", "or", "some", "all", "some", "all"]


def closed(formula, source, names=None):
    """A sentence with some or all for what is free in a formula."""
    variables = tuple(told_free(formula))
    return (source.choice(["some", "all"]), variables, formula) if variables else formula


def many_sentences(source, count, more, most_levels=6, arities=None):
    """Sentences of first-order kinds and of more, with few variables."""
    maker = Maker(source, PLAIN_KINDS + more)
    found = []
    while len(found) < count:
        sentence = closed(maker.formula(source.randrange(1, most_levels + 1), symbol_names(arities)), source)
        if bound_count(sentence, ["some", "all", "tc", "lfp"]) + bound_count(sentence, ["lfp"]) <= 9:
            found.append(sentence)
    return found


def bound_count(formula, words):
    return sum(len(own(part)) for part, _ in ways(formula) if part[0] in words)


def kind_count(formula, word):
    return [part[0] for part, _ in ways(formula)].count(word)


def told_parts(formula):
    return len(list(ways(formula)))


def with_bound(count, parts):
    """A sentence that binds so many variables and has so many parts, without lfp and tc."""
    variables = [f"x{at}" for at in range(count)]
    formula = TRUE
    below = [variables[at:at + 6] for at in range(0, count, 6)]
    left = parts - len(below)
    formula = filled(left)
    for names in below:
        formula = ("some", tuple(names), formula)
    assert told_parts(formula) == parts and bound_count(formula, ["some"]) == count
    return formula


def filled(parts):
    """A sentence without variables that has so many parts."""
    if parts == 1:
        return FALSE
    many = min(40, parts - 1)
    counts = [(parts - 1) // many + (at < (parts - 1) % many) for at in range(many)]
    return ("or", tuple(filled(count) for count in counts))


EDGE, POINT, FLAG = ("rel", "e", ("x", "y")), ("rel", "p", ("x",)), ("rel", "q", ())

# Sentences that cost little.
CHEAP = [
    TRUE, FALSE, FLAG, ("not", FLAG), ("not", TRUE), ("and", (FLAG,)), ("or", (FLAG,)), ("and", (TRUE,)), ("or", (FALSE,)),
    ("and", (TRUE, FALSE)), ("or", (FALSE, TRUE)), ("or", (TRUE, FALSE)), ("and", (FLAG, ("not", FLAG))), ("or", (FLAG, ("not", FLAG))),
    ("and", (TRUE,) * 40), ("or", (FALSE,) * 40), ("or", (("and", ()), ("or", ()))), nested(40), nested(39),
    ("some", ("x",), ("eq", "x", "x")), ("all", ("x",), ("less", "x", "x")), ("some", ("x",), FALSE), ("all", ("x",), TRUE),
    ("all", ("x",), FALSE), ("some", ("x", "y"), ("less", "x", "y")), ("not", ("some", ("x", "y"), ("less", "x", "y"))),
]
