"""A second evaluation of formulas and systems, and their costs, written from the definitions of the document alone."""

from itertools import product


def rows_of(size, count):
    return list(product(range(size), repeat=count))


def relations_of(structure):
    return {name: set(rows) for name, _, rows in structure.relations}


def told(formula, size, values, relations):
    """Whether a formula holds for values of variables and sets of tuples for names."""
    word = formula[0]
    if word == "rel":
        return tuple(values[variable] for variable in formula[2]) in relations[formula[1]]
    if word == "eq":
        return values[formula[1]] == values[formula[2]]
    if word == "less":
        return values[formula[1]] < values[formula[2]]
    if word == "not":
        return not told(formula[1], size, values, relations)
    if word == "and":
        return all([told(part, size, values, relations) for part in formula[1]])
    if word == "or":
        return any([told(part, size, values, relations) for part in formula[1]])
    if word in ("some", "all"):
        found = [told(formula[2], size, {**values, **dict(zip(formula[1], row))}, relations)
                 for row in rows_of(size, len(formula[1]))]
        return any(found) if word == "some" else all(found)
    if word in ("lfp", "pfp"):
        return tuple(values[variable] for variable in formula[4]) in told_limit(formula, size, values, relations)
    if word == "tc":
        return told_closure(formula, size, values, relations)
    rows = rows_of(size, formula[2])
    return any(told(formula[3], size, values, {**relations, formula[1]: set(subset)}) for subset in subsets(rows))


def subsets(rows):
    for chosen in product([False, True], repeat=len(rows)):
        yield [row for row, take in zip(rows, chosen) if take]


def told_stage(formula, size, values, relations, stage):
    _, name, variables, body, _ = formula
    return {row for row in rows_of(size, len(variables))
            if told(body, size, {**values, **dict(zip(variables, row))}, {**relations, name: stage})}


def told_limit(formula, size, values, relations):
    """The union of the stages of an lfp, or the stage of a pfp that equals the next one, or nothing."""
    found = [set()]
    while True:
        following = told_stage(formula, size, values, relations, found[-1])
        if formula[0] == "pfp" and following == found[-1]:
            return following
        if following in found:
            return set().union(*found) if formula[0] == "lfp" else set()
        found.append(following)


def told_closure(formula, size, values, relations):
    _, variables, body, args = formula
    half = len(variables) // 2
    leads = {row for row in rows_of(size, 2 * half)
             if told(body, size, {**values, **dict(zip(variables, row))}, relations)}
    ends = tuple(values[variable] for variable in args)
    reached = {ends[:half]}
    while True:
        more = reached | {row[half:] for row in leads if row[:half] in reached}
        if more == reached:
            return ends[half:] in reached
        reached = more


def told_rows(formula, structure, variables):
    """The tuples of elements of the variables for which a formula holds."""
    relations = relations_of(structure)
    return [row for row in rows_of(structure.size, len(variables))
            if told(formula, structure.size, dict(zip(variables, row)), relations)]


def told_stages(system, structure):
    """The stages of a system, as lists of lists, up to the first one that equals the next one."""
    size, relations = structure.size, relations_of(structure)
    found = [[set() for _ in system]]
    while True:
        held = {**relations, **{name: rows for (name, _, _), rows in zip(system, found[-1])}}
        following = [{row for row in rows_of(size, len(variables)) if told(body, size, dict(zip(variables, row)), held)}
                     for _, variables, body in system]
        if following == found[-1]:
            return [[sorted(rows) for rows in stage] for stage in found]
        found.append(following)


def told_cost(formula, n):
    """The cost of a formula, as large as it is."""
    word = formula[0]
    if word in ("rel", "eq", "less"):
        return 1
    if word in ("and", "or"):
        return 1 + sum(told_cost(part, n) for part in formula[1])
    if word == "not":
        return 1 + told_cost(formula[1], n)
    if word in ("some", "all"):
        return 1 + n ** len(formula[1]) * told_cost(formula[2], n)
    if word == "tc":
        return 1 + n ** len(formula[1]) * told_cost(formula[2], n)
    if word == "lfp":
        return 1 + n ** len(formula[2]) * n ** len(formula[2]) * told_cost(formula[3], n)
    if word == "pfp":
        count = n ** len(formula[2])
        return 1 + 2 ** count * count * told_cost(formula[3], n)
    return 1 + 2 ** n ** formula[2] * told_cost(formula[3], n)


def told_too_large(formula, n):
    """Whether `holds` says that a formula is too large for so many elements."""
    return told_cost(formula, n) > 3 * 10 ** 6 or rows_too_many(formula, n)


def rows_too_many(formula, n):
    word = formula[0]
    if word in ("rel", "eq", "less"):
        return False
    if word in ("and", "or"):
        return any(rows_too_many(part, n) for part in formula[1])
    here = {"lfp": lambda: n ** len(formula[2]) > 4096, "tc": lambda: n ** (len(formula[1]) // 2) > 4096,
            "pfp": lambda: n ** len(formula[2]) > 12, "guess": lambda: n ** formula[2] > 12}.get(word, lambda: False)()
    body = formula[{"not": 1, "some": 2, "all": 2, "tc": 2, "lfp": 3, "pfp": 3, "guess": 3}[word]]
    return here or rows_too_many(body, n)
