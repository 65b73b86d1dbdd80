"""Structures, and formulas and systems made by a source of numbers that fit them, with names bound again and again."""

import random

from samples import FALSE
from samples import told_free
from samples import ways
from sayso.structures import Structure
from second import told_cost

ARITIES = {"e": 2, "p": 1, "q": 0, "x": 1}
VARIABLES = ["x", "y", "z", "e"]
ALL_KINDS = ["rel", "rel", "eq", "less", "not", "not", "and", "or", "some", "all", "lfp", "pfp", "tc", "guess"]
FIRST_ORDER = ["rel", "rel", "eq", "less", "not", "not", "and", "or", "some", "all", "some", "all"]


def made_structure(source, size):
    relations = []
    for name, arity in ARITIES.items():
        rows = [row for row in rows_of(size, arity) if source.random() < 0.4]
        relations.append((name, arity, rows))
    return Structure(size, relations)


def rows_of(size, count):
    rows = [()]
    for _ in range(count):
        rows = [row + (k,) for row in rows for k in range(size)]
    return rows


class Maker:
    """A source of formulas; names maps each name that may occur to its arity and its sign.

    The sign is 0 for a name that may occur anywhere. For a name of which lfp need positive formulas it is 1 below an
    even number of "not", -1 below an odd one, and None in a pfp.
    """

    def __init__(self, source, kinds=ALL_KINDS, variables=VARIABLES):
        self.source, self.kinds, self.variables = source, kinds, variables

    def some_variables(self, count):
        return tuple(self.source.sample(self.variables, count))

    def args(self, count):
        return tuple(self.source.choice(self.variables) for _ in range(count))

    def atom(self, names):
        usable = [name for name, (_, sign) in names.items() if sign in (0, 1)]
        if usable and self.source.random() < 0.8:
            # Names bound further within come last, and would otherwise hardly ever occur.
            name = usable[-1] if self.source.random() < 0.5 else self.source.choice(usable)
            return ("rel", name, self.args(names[name][0]))
        return (self.source.choice([word for word in self.kinds if word in ("eq", "less")]),) + self.args(2)

    def formula(self, levels, names):
        word = self.source.choice(self.kinds)
        if levels <= 1 or word in ("rel", "eq", "less"):
            return self.atom(names)
        if word in ("and", "or"):
            return (word, tuple(self.formula(levels - 1, names) for _ in range(self.source.choice([0, 1, 2, 2, 3]))))
        if word == "not":
            return (word, self.formula(levels - 1, turned(names)))
        if word in ("some", "all"):
            return (word, self.some_variables(self.source.choice([1, 1, 2])), self.formula(levels - 1, names))
        if word == "tc":
            own = self.some_variables(self.source.choice([2, 2, 4]))
            return (word, own, self.formula(levels - 1, names), self.args(len(own)))
        return self.binding(word, levels, names)

    def binding(self, word, levels, names):
        name = self.source.choice(["r", "s", "e", "p", "x"])
        within = {other: told for other, told in names.items() if other != name}
        if word == "guess":
            arity = self.source.choice([0, 1, 1, 2])
            within[name] = (arity, 0)
            return (word, name, arity, self.formula(levels - 1, within))
        own = self.some_variables(self.source.choice([1, 1, 2]))
        if word == "pfp":
            within = {other: (arity, sign if sign == 0 else None) for other, (arity, sign) in within.items()}
        within[name] = (len(own), 1 if word == "lfp" else 0)
        return (word, name, own, self.formula(levels - 1, within), self.args(len(own)))


def turned(names):
    return {name: (arity, None if sign is None else -sign) for name, (arity, sign) in names.items()}


def symbol_names(arities=None):
    return {name: (arity, 0) for name, arity in (arities or ARITIES).items()}


def many_fitting(count, seed, most_cost, size, kinds=ALL_KINDS, levels=(2, 7), first_words=None):
    """So many formulas whose cost is at most as told, the same ones each time."""
    source = random.Random(seed)
    maker = Maker(source, kinds)
    found = []
    while len(found) < count:
        formula = maker.formula(source.randrange(*levels), symbol_names())
        if told_cost(formula, size) <= most_cost and (first_words is None or formula[0] in first_words):
            found.append(formula)
    return found


def kinds_in(formula):
    return {part[0] for part, _ in ways(formula)}


def made_system(source, most_variables=2, most_definitions=3, levels=5, kinds=ALL_KINDS):
    """A system with names that may also be those of relations of the structures."""
    count = source.randrange(1, most_definitions + 1)
    own_names = source.sample(["r", "s", "e", "p", "t", "u"], count)
    counts = [source.randrange(1, most_variables + 1) for _ in range(count)]
    names = {name: (arity, 0) for name, arity in ARITIES.items() if name not in own_names}
    names.update({name: (arity, 1) for name, arity in zip(own_names, counts)})
    system = []
    for name, arity in zip(own_names, counts):
        own = tuple(source.sample(VARIABLES, arity))
        maker = Maker(source, kinds)
        body = maker.formula(levels, names)
        while not set(told_free(body)) <= set(own):
            missing = tuple(variable for variable in told_free(body) if variable not in own)
            body = (source.choice(["some", "all"]), missing, body)
        system.append((name, own, body))
    return system


def formula_of_cost(n, wanted):
    """A formula without free variables that has a certain cost for n elements, and never holds."""
    found, left = [], wanted - 1
    while left > 0:
        counts = [count for count in range(1, 7) if 1 + n ** count <= left]
        if counts:
            factor = min((left - 1) // n ** counts[-1], 40)
            found.append(("some", tuple("abcdef"[:counts[-1]]), ("or", (FALSE,) * (factor - 1))))
            left -= 1 + factor * n ** counts[-1]
        else:
            found.append(FALSE)
            left -= 1
    return ("or", tuple(found))
