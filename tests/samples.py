"""Formulas for the tests, and what the document says of them, told by the way from the root to each part."""

import random

X = ("eq", "x", "x")
TRUE = ("and", ())
FALSE = ("or", ())

# One formula of each kind, and the text of it.
KINDS = [
    (("rel", "e", ("x", "y")), "e(x y)"),
    (("rel", "e", ()), "e()"),
    (("rel", "e", ("x",) * 6), "e(x x x x x x)"),
    (("eq", "x", "y"), "x = y"),
    (("less", "x", "y1"), "x < y1"),
    (("not", X), "not(x = x)"),
    (TRUE, "true"),
    (FALSE, "false"),
    (("and", (X,)), "and(x = x)"),
    (("or", (X,)), "or(x = x)"),
    (("and", (X, FALSE, ("not", TRUE))), "and(x = x, false, not(true))"),
    (("or", (("less", "x", "y"), ("and", (X, X)))), "or(x < y, and(x = x, x = x))"),
    (("some", ("x", "y"), X), "some(x y: x = x)"),
    (("all", ("x",), X), "all(x: x = x)"),
    (("lfp", "r", ("x", "y"), ("rel", "r", ("y", "x")), ("a", "b")), "lfp(r x y: r(y x))(a b)"),
    (("pfp", "r", ("x",), ("not", ("rel", "r", ("x",))), ("a",)), "pfp(r x: not(r(x)))(a)"),
    (("tc", ("x", "y"), ("rel", "e", ("x", "y")), ("a", "a")), "tc(x y: e(x y))(a a)"),
    (("guess", "r", 2, ("rel", "r", ("x", "y"))), "guess(r 2: r(x y))"),
    (("guess", "r", 0, ("rel", "r", ())), "guess(r 0: r())"),
    (("some", ("some1",), ("guess", "lfp2", 3, ("eq", "some1", "and3"))), "some(some1: guess(lfp2 3: some1 = and3))"),
]


def nested(levels):
    """A formula that is nested as deep as told."""
    formula = TRUE
    for _ in range(levels - 1):
        formula = ("not", formula)
    return formula


def with_parts(count):
    """A formula with as many parts as told."""
    if count == 1:
        return TRUE
    many = min(40, count - 1)
    counts = [(count - 1) // many + (k < (count - 1) % many) for k in range(many)]
    return ("or", tuple(with_parts(one) for one in counts))


def within(formula):
    """The formulas directly in a formula."""
    if formula[0] in ("and", "or"):
        return list(formula[1])
    return [part for part in formula[1:] if isinstance(part, tuple) and part and part[0] in
            ("rel", "eq", "less", "not", "and", "or", "some", "all", "lfp", "pfp", "tc", "guess")]


def ways(formula, above=()):
    """All parts of a formula, each with the formulas round it, from the outermost on."""
    yield formula, above
    for part in within(formula):
        yield from ways(part, above + (formula,))


def told_own(formula):
    return {"some": 1, "all": 1, "tc": 1, "lfp": 2, "pfp": 2}.get(formula[0], 0)


def own(formula):
    return formula[told_own(formula)] if told_own(formula) else ()


def arguments(formula):
    if formula[0] in ("eq", "less"):
        return formula[1:]
    return formula[-1] if formula[0] in ("rel", "lfp", "pfp", "tc") else ()


def binder(name, above):
    """The innermost formula round a part that binds a name of a relation."""
    for formula in reversed(above):
        if formula[0] in ("lfp", "pfp", "guess") and formula[1] == name:
            return formula
    return None


def told_free(formula):
    found = set()
    for part, above in ways(formula):
        for variable in arguments(part):
            if not any(variable in own(outer) for outer in above):
                found.add(variable)
    return sorted(found)


def told_symbols(formula):
    found = set()
    for part, above in ways(formula):
        if part[0] == "rel" and binder(part[1], above) is None:
            found.add((part[1], len(part[2])))
    return sorted(found)


def told_positive(formula, name):
    for part, above in ways(formula):
        if part[0] == "rel" and part[1] == name and binder(name, above) is None:
            words = [outer[0] for outer in above]
            if words.count("not") % 2 or "pfp" in words:
                return False
    return True


def told_rank(formula):
    return max(sum(len(own(outer)) for outer in above + (part,)) for part, above in ways(formula))


def told_width(formula):
    return len({variable for part, _ in ways(formula) for variable in own(part) + arguments(part)})


def told_depth(formula):
    return max(len(above) + 1 for _, above in ways(formula))


def told_agree(formula):
    """Whether names have the same arities everywhere, and lfp are positive."""
    names = [name for name, _ in told_symbols(formula)]
    if len(names) != len(set(names)):
        return False
    for part, above in ways(formula):
        bound = binder(part[1], above) if part[0] == "rel" else None
        if bound is not None:
            arity = bound[2] if bound[0] == "guess" else len(bound[2])
            if arity != len(part[2]):
                return False
        if part[0] == "lfp" and not told_positive(part[3], part[1]):
            return False
    return True


def made(source, levels):
    """A tuple that looks like a formula, but names may have several arities, and lfp need not be positive."""
    names = ["r", "s", "x"]
    variables = ["x", "y", "z", "r"]
    word = source.choice(["rel", "less", "not", "not", "not", "and", "and", "or", "some", "all",
                          "lfp", "lfp", "lfp", "pfp", "tc", "guess", "guess"])
    if levels == 1:
        word = source.choice(["rel", "rel", "rel", "eq"])
    if word == "rel":
        name = source.choice(names)
        arity = 1 if source.random() < 0.8 else source.randrange(3)
        return ("rel", name, tuple(source.choice(variables) for _ in range(arity)))
    if word in ("eq", "less"):
        return (word, source.choice(variables), source.choice(variables))
    if word in ("and", "or"):
        return (word, tuple(made(source, levels - 1) for _ in range(source.randrange(4))))
    body = made(source, levels - 1)
    if word == "not":
        return ("not", body)
    if word == "guess":
        return ("guess", source.choice(names), 1 if source.random() < 0.8 else source.randrange(4), body)
    count = source.choice([2, 4]) if word == "tc" else 1 if source.random() < 0.8 else 2
    chosen = tuple(source.sample(variables, count))
    if word in ("some", "all"):
        return (word, chosen, body)
    args = tuple(source.choice(variables) for _ in chosen)
    if word == "tc":
        return ("tc", chosen, body, args)
    return (word, source.choice(names), chosen, body, args)


def many_made(count, seed=1):
    """As many such tuples as told, the same ones each time."""
    source = random.Random(seed)
    return [made(source, source.randrange(2, 10)) for _ in range(count)]
