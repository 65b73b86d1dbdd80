"""Formulas with other variables, or with other formulas in the place of a rel."""

from sayso.shapes import arguments
from sayso.shapes import bound_name
from sayso.shapes import inner
from sayso.shapes import own
from sayso.shapes import with_arguments
from sayso.shapes import with_inner
from sayso.shapes import with_own


class Names:
    """A source of names, none of which comes twice, or is one of those that are barred from the beginning.

    Only names that are barred or known may be asked for: those that the source makes by itself are none of these.
    """

    def __init__(self, barred, known):
        self.used = {name: True for name in barred}
        self.known = {name: True for name in known}
        self.made = 0

    def fresh(self):
        """Return a name that the source makes by itself."""
        while True:
            self.made += 1
            name = f"v{self.made}"
            if name not in self.used and name not in self.known:
                return name

    def instead_of(self, name):
        """Return this name if it may still be given out, and otherwise a fresh one."""
        if name in self.used:
            return self.fresh()
        self.used[name] = True
        return name


def renamed(formula, changes, source):
    """Return a formula with other free variables, those of the dictionary, and bound ones from a source.

    The bound variables stay apart from the free ones if these are barred from the source.
    """
    passed = tuple([changes.get(variable, variable) for variable in arguments(formula)])
    bound = tuple([source.instead_of(variable) for variable in own(formula)])
    within = dict(changes)
    for old, new in zip(own(formula), bound):
        within[old] = new
    parts = [renamed(part, within, source) for part in inner(formula)]
    return with_inner(with_own(with_arguments(formula, passed), bound), parts)


def with_rels(formula, makers):
    """Return a formula in which what makers[name] makes of the arguments stands for each occurrence of a name."""
    if formula[0] == "rel":
        if formula[1] not in makers:
            return formula
        make = makers[formula[1]]
        return make(formula[2])
    within = {name: makers[name] for name in makers if name != bound_name(formula)}
    return with_inner(formula, [with_rels(part, within) for part in inner(formula)])
