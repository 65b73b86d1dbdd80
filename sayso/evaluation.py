"""Formulas made into functions that tell whether they hold."""

from sayso.shapes import arguments
from sayso.shapes import inner
from sayso.shapes import own


class Scope:
    """Where the elements of variables and the relations of names are kept while formulas are evaluated.

    A relation is a dictionary whose keys are its tuples. The lists are shared by all scopes within one another. Each
    variable and each name that a formula binds has a place of its own in them, so that nothing has to be put back.
    """

    def __init__(self, size):
        self.size = size
        self.cells = []
        self.tables = []
        self.cell_of = {}
        self.table_of = {}

    def inside(self):
        """Return a scope within this one: what is added to it is not known in this one."""
        scope = Scope(self.size)
        scope.cells = self.cells
        scope.tables = self.tables
        scope.cell_of = dict(self.cell_of)
        scope.table_of = dict(self.table_of)
        return scope

    def add_variables(self, variables):
        """Keep the elements of variables at places one behind the other, and return the first place."""
        first = len(self.cells)
        for variable in variables:
            self.cell_of[variable] = len(self.cells)
            self.cells.append(0)
        return first

    def add_name(self, name):
        """Keep the relation of a name, which is empty at first, and return its place."""
        self.table_of[name] = len(self.tables)
        self.tables.append({})
        return self.table_of[name]

    def places_of(self, variables):
        """Return the places of variables."""
        return [self.cell_of[variable] for variable in variables]


def scope_of(structure):
    """Return a scope with the relations of a structure."""
    scope = Scope(structure.size)
    for name, _, rows in structure.relations:
        place = scope.add_name(name)
        scope.tables[place] = {row: True for row in rows}
    return scope


def all_rows(size, count):
    """Return the ascending list of the tuples of so many elements."""
    rows = [()]
    for _ in range(count):
        rows = [row + (element,) for row in rows for element in range(size)]
    return rows


def row_test(formula, variables, scope):
    """Return the function that tells of a tuple whether a formula holds if the variables have its elements."""
    within = scope.inside()
    first = within.add_variables(variables)
    behind = first + len(variables)
    test = truth_test(formula, within)
    cells = scope.cells

    def holds_for(row):
        cells[first:behind] = row
        return test()

    return holds_for


def _row_of_arguments(formula, scope):
    """Return the function that tells the tuple of the elements of the arguments of a formula."""
    cells = scope.cells
    places = scope.places_of(arguments(formula))
    return lambda: tuple([cells[place] for place in places])


def _rel_test(formula, scope):
    tables = scope.tables
    table = scope.table_of[formula[1]]
    row = _row_of_arguments(formula, scope)
    return lambda: row() in tables[table]


def _eq_test(formula, scope):
    cells = scope.cells
    first, second = scope.places_of(arguments(formula))
    return lambda: cells[first] == cells[second]


def _less_test(formula, scope):
    cells = scope.cells
    first, second = scope.places_of(arguments(formula))
    return lambda: cells[first] < cells[second]


def _not_test(formula, scope):
    test = truth_test(formula[1], scope)
    return lambda: not test()


def _joined_test(formula, scope):
    tests = [truth_test(part, scope) for part in inner(formula)]
    # One part that is so decides the whole.
    deciding = formula[0] == "or"

    def holds_now():
        for test in tests:
            if test() == deciding:
                return deciding
        return not deciding

    return holds_now


def _quantified_test(formula, scope):
    within = scope.inside()
    first = within.add_variables(own(formula))
    test = truth_test(formula[2], within)
    for place in range(first, first + len(own(formula))):
        test = _tried_elements(test, scope, place, formula[0] == "some")
    return test


def _tried_elements(test, scope, place, deciding):
    """Return the function that puts all elements at a place until one decides, and tells what they decide."""
    cells = scope.cells
    size = scope.size

    def holds_now():
        for element in range(size):
            cells[place] = element
            if test() == deciding:
                return deciding
        return not deciding

    return holds_now


def row_finder(formula, variables, scope):
    """Return the function that lists the tuples for which a formula holds, or which it is told to keep.

    The list is a dictionary whose keys ascend, and so is what the function is passed.
    """
    rows = all_rows(scope.size, len(variables))
    holds_for = row_test(formula, variables, scope)
    return lambda kept: {row: True for row in rows if row in kept or holds_for(row)}


def _settled(following):
    """Return the first stage that equals the next one, or the empty relation if the stages go round for ever."""
    stage = {}
    seen = {}
    while tuple(stage) not in seen:
        seen[tuple(stage)] = True
        after = following(stage)
        if after == stage:
            return stage
        stage = after
    return {}


def _fixed_point_test(formula, scope):
    within = scope.inside()
    table = within.add_name(formula[1])
    find = row_finder(formula[3], own(formula), within)
    tables = scope.tables
    row = _row_of_arguments(formula, scope)
    # The stages of an lfp grow: what is in one of them need not be looked at again.
    grows = formula[0] == "lfp"

    def following(stage):
        tables[table] = stage
        return find(stage if grows else {})

    return lambda: row() in _settled(following)


def _is_reached(start, goal, rows, leads):
    """Tell whether the steps among rows lead from a start to a goal, or these are equal."""
    reached = {start: True}
    waiting = [start]
    while waiting and goal not in reached:
        here = waiting.pop()
        for there in rows:
            if there not in reached and leads(here + there):
                reached[there] = True
                waiting.append(there)
    return goal in reached


def _closure_test(formula, scope):
    half = len(own(formula)) // 2
    rows = all_rows(scope.size, half)
    leads = row_test(formula[2], own(formula), scope)
    row = _row_of_arguments(formula, scope)

    def holds_now():
        ends = row()
        return _is_reached(ends[:half], ends[half:], rows, leads)

    return holds_now


def counts_on(relation, rows):
    """Make a relation the next one of those that consist of rows, and tell whether there is a next one."""
    # This is counting in binary digits, one for each row: a digit becomes 1, and those before it become 0.
    for row in rows:
        if row not in relation:
            relation[row] = True
            return True
        del relation[row]
    return False


def _guess_test(formula, scope):
    within = scope.inside()
    table = within.add_name(formula[1])
    test = truth_test(formula[3], within)
    rows = all_rows(scope.size, formula[2])
    tables = scope.tables

    def holds_now():
        tables[table] = {}
        while not test():
            if not counts_on(tables[table], rows):
                return False
        return True

    return holds_now


TEST_MAKERS = {
    "rel": _rel_test, "eq": _eq_test, "less": _less_test, "not": _not_test, "and": _joined_test, "or": _joined_test,
    "some": _quantified_test, "all": _quantified_test, "lfp": _fixed_point_test, "pfp": _fixed_point_test,
    "tc": _closure_test, "guess": _guess_test,
}


def truth_test(formula, scope):
    """Return the function that tells whether a formula holds with what the scope's places have at that time."""
    make = TEST_MAKERS[formula[0]]
    return make(formula, scope)
