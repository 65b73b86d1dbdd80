"""Machines made by a source of numbers, and what the document says of machines, written a second time."""

from sayso.structures import Structure

SYMBOLS = [("e", 2), ("p", 1), ("q", 0), ("v1", 1)]


def rows_of(size, count):
    rows = [()]
    for _ in range(count):
        rows = [row + (k,) for row in rows for k in range(size)]
    return rows


def made_structure(source, size, symbols=SYMBOLS):
    return Structure(size, [(name, arity, [row for row in rows_of(size, arity) if source.random() < 0.5])
                            for name, arity in symbols])


def made_condition(source, heads, tapes):
    flag = source.random() < 0.5
    kinds = ["none"] + ["rel", "rel", "eq", "less", "last", "last"] * bool(heads)
    usable = [tape for tape, arity in enumerate(tapes) if heads or not arity]
    word = source.choice(kinds + ["mark"] * 3 * bool(usable))
    if word == "none":
        return ("rel", "q", (), flag)
    if word == "rel":
        name, arity = source.choice([symbol for symbol in SYMBOLS if symbol[1]])
        return (word, name, places(source, heads, arity), flag)
    if word == "last":
        return (word, source.randrange(heads), flag)
    if word == "mark":
        tape = source.choice(usable)
        return (word, tape, places(source, heads, tapes[tape]), flag)
    return (word, source.randrange(heads), source.randrange(heads), flag)


def places(source, heads, count):
    return tuple(source.randrange(heads) for _ in range(count))


def made_actions(source, heads, tapes, most):
    usable = [tape for tape, arity in enumerate(tapes) if heads or not arity]
    kinds = ["up", "up", "up", "down", "zero", "copy"] * bool(heads) + ["write"] * 4 * bool(usable)
    found = []
    for _ in range(source.randrange(most + 1) if kinds else 0):
        word = source.choice(kinds)
        if word == "write":
            tape = source.choice(usable)
            found.append((word, tape, places(source, heads, tapes[tape]), source.random() < 0.6))
        else:
            found.append((word,) + places(source, heads, 2 if word == "copy" else 1))
    return tuple(found)


def made_machine(source, heads, tapes, states, count, most_conditions=2, most_actions=2):
    """A machine with so many rules, of which several may apply."""
    rules = []
    for _ in range(count):
        state = source.choice([state for state in range(states) if state != 1])
        conditions = tuple(made_condition(source, heads, tapes) for _ in range(source.randrange(most_conditions + 1)))
        rules.append((state, conditions, made_actions(source, heads, tapes, most_actions), source.randrange(states)))
    return (heads, tapes, states, tuple(rules))


def made_plain(source, heads, tapes, states, most_actions=2, levels=2):
    """A plain machine; the rules of a state are the leaves of a tree of conditions."""
    rules = []

    def split(state, conditions, left):
        if left == 0 or source.random() < 0.25:
            if source.random() < 0.9:
                actions = made_actions(source, heads, tapes, most_actions)
                rules.append((state, conditions, actions, source.randrange(states)))
            return
        condition = made_condition(source, heads, tapes)
        split(state, conditions + (condition[:-1] + (True,),), left - 1)
        split(state, conditions + (condition[:-1] + (False,),), left - 1)

    for state in range(states):
        if state != 1:
            split(state, (), levels)
    source.shuffle(rules)
    return (heads, tapes, states, tuple(rules))


def told_holds(condition, structure, stands, marks):
    word, flag = condition[0], condition[-1]
    if word == "rel":
        found = tuple(stands[head] for head in condition[2]) in dict((r[0], r[2]) for r in structure.relations)[condition[1]]
    elif word == "mark":
        found = tuple(stands[head] for head in condition[2]) in marks[condition[1]]
    elif word == "last":
        found = stands[condition[1]] == structure.size - 1
    else:
        first, second = stands[condition[1]], stands[condition[2]]
        found = first == second if word == "eq" else first < second
    return found is flag


def told_after(actions, size, stands, marks):
    """The elements of the heads and the marks after actions, or None."""
    stands, marks = list(stands), [set(cells) for cells in marks]
    for action in actions:
        if action[0] == "write":
            cell = {tuple(stands[head] for head in action[2])}
            marks[action[1]] = marks[action[1]] | cell if action[3] else marks[action[1]] - cell
        else:
            head = action[1]
            stands[head] = {"up": stands[head] + 1, "down": stands[head] - 1, "zero": 0,
                            "copy": stands[action[-1]]}[action[0]]
            if not 0 <= stands[head] < size:
                return None
    return tuple(stands), tuple(tuple(sorted(cells)) for cells in marks)


def told_next(machine, structure, configuration):
    """The pairs (index of a rule, configuration) of all rules that apply."""
    state, stands, marks = configuration
    found = []
    for index, rule in enumerate(machine[3]):
        if rule[0] == state and all(told_holds(one, structure, stands, marks) for one in rule[1]):
            after = told_after(rule[2], structure.size, stands, marks)
            if after is not None:
                found.append((index, (rule[3],) + after))
    return found


def told_first(machine, guess=None):
    marks = [()] * len(machine[1])
    if guess is not None:
        marks[0] = tuple(sorted(guess))
    return (0, (0,) * machine[0], tuple(marks))


def told_levels(machine, structure):
    """The sets of configurations that are reached in so many steps or fewer, up to two that are equal."""
    levels = [{told_first(machine)}]
    while len(levels) < 2 or levels[-1] != levels[-2]:
        levels.append(levels[-1] | {after for here in levels[-1] for _, after in told_next(machine, structure, here)})
    return levels


def told_accepts(machine, structure):
    return any(configuration[0] == 1 for configuration in told_levels(machine, structure)[-1])


def told_run(machine, structure, most, guess=None):
    """The word, the number of steps and the configuration of a run, which may begin with a guess."""
    here = told_first(machine, guess)
    for steps in range(most + 1):
        following = told_next(machine, structure, here)
        if here[0] == 1:
            return ("accepts", steps, here)
        if not following:
            return ("stops", steps, here)
        if steps == most:
            return ("goes on", steps, here)
        here = following[0][1]


def told_machine_symbols(machine):
    return sorted({(one[1], len(one[2])) for rule in machine[3] for one in rule[1] if one[0] == "rel"})


# A machine that counts in binary digits on a tape of the arity 1, the digit of the element 0 being the lowest, and
# accepts when all of them have been 1 and become 0 again: it takes more than 2 ** n steps.
COUNTER = (1, (1,), 3, (
    (0, (("mark", 0, (0,), False),), (("write", 0, (0,), True), ("zero", 0)), 0),
    (0, (("mark", 0, (0,), True), ("last", 0, False)), (("write", 0, (0,), False), ("up", 0)), 0),
    (0, (("mark", 0, (0,), True), ("last", 0, True)), (("write", 0, (0,), False),), 1),
))

# Machines without tapes that go from edge to edge, to any neighbour or to the one that there is.
REACHES = (2, (), 4, (
    (0, (), (("up", 1),), 0),
    (0, (("rel", "e", (0, 1), True),), (("copy", 0, 1), ("zero", 1)), 2),
    (2, (), (), 0),
    (2, (("last", 0, True),), (), 1),
))
WALKS = (1, (), 2, (
    (0, (("last", 0, False), ("rel", "p", (0,), True)), (("up", 0),), 0),
    (0, (("last", 0, True), ("rel", "p", (0,), True)), (), 1),
))
