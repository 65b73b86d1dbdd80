"""Systems of definitions, and their least fixed points."""

from sayso.errors import BadArgument
from sayso.errors import BadFormula
from sayso.errors import TooLarge
from sayso.evaluation import row_finder
from sayso.evaluation import scope_of
from sayso.formulas import arities_in
from sayso.formulas import free
from sayso.formulas import is_positive_in
from sayso.formulas import names_in
from sayso.formulas import variables_in
from sayso.formulas import within_bounds
from sayso.integers import digits_for
from sayso.integers import is_between
from sayso.integers import power
from sayso.meaning import MOST_COST
from sayso.meaning import check_symbols
from sayso.meaning import check_work
from sayso.meaning import known_cost
from sayso.renaming import Names
from sayso.renaming import renamed
from sayso.renaming import with_rels
from sayso.shapes import OWN_COUNTS
from sayso.shapes import are_different
from sayso.structures import is_name

MOST_DEFINITIONS = 24


def _check_definition(definition):
    """Raise BadFormula for what is no definition, whatever other definitions there are."""
    if not isinstance(definition, tuple) or len(definition) != 3:
        raise BadFormula("a definition is a tuple of a name, variables and a formula")
    name, variables, body = definition
    if not is_name(name) or not are_different(variables, OWN_COUNTS):
        raise BadFormula("a definition has a name, and 1 to 6 different variables")
    for variable in free(body):
        if variable not in variables:
            raise BadFormula("a variable that is free in a definition is none of its variables")


def _check_agreement(system):
    """Raise BadFormula if a name has two numbers of arguments in definitions, or one is not positive in a name."""
    names = [definition[0] for definition in system]
    if len(set(names)) != len(names):
        raise BadFormula("the names of definitions differ")
    arities = {name: len(variables) for name, variables, _ in system}
    for _, _, body in system:
        for name, arity in arities_in(body).items():
            if arities.setdefault(name, arity) != arity:
                raise BadFormula("a name of a system has two numbers of arguments")
            if name in names and not is_positive_in(body, name, 1):
                raise BadFormula("a definition is not positive in a name of the system")


def check_system(system):
    """Return None, or raise BadFormula for a value of any kind that is not a system."""
    if not isinstance(system, list) or not 1 <= len(system) <= MOST_DEFINITIONS:
        raise BadFormula("a system is a list of 1 to 24 definitions")
    for definition in system:
        _check_definition(definition)
    _check_agreement(system)


def _symbols_outside(system):
    """Return the list of pairs (name, arity) of the symbols of a system other than its names."""
    names = [definition[0] for definition in system]
    found = {}
    for _, _, body in system:
        for name, arity in arities_in(body).items():
            if name not in names:
                found[name] = arity
    return list(found.items())


def _check_solvable(system, structure):
    """Raise an error for what is no system, does not fit the structure, or is too much to be evaluated in it."""
    check_system(system)
    check_symbols(_symbols_outside(system), structure)
    size = structure.size
    counts = [power(size, len(variables)) for _, variables, _ in system]
    work = 0
    for count, (_, _, body) in zip(counts, system):
        check_work(body, size)
        work = work + count * known_cost(body, size)
    # A definition with more than 4096 tuples is beyond this, too: the product is at least their square.
    if sum(counts) * work > MOST_COST:
        raise TooLarge("the stages of the system are too much to be evaluated")


class Stage:
    """A stage of a system in a structure; its relations are dictionaries whose keys are ascending tuples."""

    def __init__(self, system, structure):
        self.scope = scope_of(structure)
        # A name of the system stands for a relation of the system, also if the structure has one of this name.
        self.own_tables = [self.scope.add_name(name) for name, _, _ in system]
        self.finders = [row_finder(body, variables, self.scope) for _, variables, body in system]

    def row_lists(self):
        """Return the list of the ascending lists of tuples, one for each definition."""
        return [list(self.scope.tables[place]) for place in self.own_tables]

    def goes_on(self):
        """Become the next stage, and tell whether it is another one."""
        before = [self.scope.tables[place] for place in self.own_tables]
        # The stages grow: what is in one of them need not be looked at again.
        after = [find(kept) for find, kept in zip(self.finders, before)]
        for place, rows in zip(self.own_tables, after):
            self.scope.tables[place] = rows
        return after != before


def solve(system, structure):
    """Return the least fixed point: the list of the ascending lists of tuples, one for each definition."""
    _check_solvable(system, structure)
    stage = Stage(system, structure)
    while stage.goes_on():
        pass
    return stage.row_lists()


def stages(system, structure):
    """Return the list of all stages, from the empty one to the least fixed point."""
    _check_solvable(system, structure)
    stage = Stage(system, structure)
    found = [stage.row_lists()]
    while stage.goes_on():
        found.append(stage.row_lists())
    return found


class Joined:
    """The relations of a system put into one, which tells them apart by marks that are one of two elements.

    Behind the marks stand the places of a tuple, and behind these anything, up to the greatest number of variables.
    """

    def __init__(self, system, element, source):
        self.element = element
        self.other = source.fresh()
        self.name = source.fresh()
        self.marks = tuple([source.fresh() for _ in range(digits_for(len(system)))])
        self.places = tuple([source.fresh() for _ in range(max([len(variables) for _, variables, _ in system]))])

    def marking(self, index):
        """Return the variables whose elements are the marks of a definition."""
        return tuple([self.other if index >> at & 1 else self.element for at in range(len(self.marks))])

    def row(self, index, passed):
        """Return the arguments that stand for those of the relation of a definition."""
        rest = (passed[0],) * (len(self.places) - len(passed))
        return self.marking(index) + passed + rest

    def call(self, index):
        """Return the function that makes the rel of a definition into one of the joined relation."""
        return lambda passed: ("rel", self.name, self.row(index, passed))


def _joined_parts(system, joined, source):
    """Return the tuple of formulas that tell, each for one definition, which tuples the joined relation has."""
    makers = {definition[0]: joined.call(index) for index, definition in enumerate(system)}
    found = []
    for index, (_, variables, body) in enumerate(system):
        tests = [("eq", mark, wanted) for mark, wanted in zip(joined.marks, joined.marking(index))]
        moved = renamed(body, dict(zip(variables, joined.places)), source)
        found.append(("and", tuple(tests + [with_rels(moved, makers)])))
    return tuple(found)


def _all_names(system):
    """Return the list of all names of relations and of variables in a system, some of them several times."""
    found = []
    for name, variables, body in system:
        found.append(name)
        found.extend(variables)
        found.extend(list(variables_in(body)))
        found.extend(list(names_in(body)))
    return found


def one_formula(system, index):
    """Return a formula, with one lfp more than the system has, that tells of the least fixed point of a definition."""
    check_system(system)
    if not is_between(index, 0, len(system) - 1):
        raise BadArgument("the index is none of a definition")
    name, variables, body = system[index]
    if len(system) == 1:
        return within_bounds(("lfp", name, variables, body, variables))
    source = Names(_all_names(system), [])
    joined = Joined(system, variables[0], source)
    whole = ("or", _joined_parts(system, joined, source))
    point = ("lfp", joined.name, joined.marks + joined.places, whole, joined.row(index, variables))
    differ = ("not", ("eq", joined.element, joined.other))
    return within_bounds(("some", (joined.other,), ("and", (differ, point))))
