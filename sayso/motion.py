"""Machines at work on a structure."""

from sayso.integers import is_between
from sayso.rules import rules_by_state

ACCEPTING = 1


def _rel_test(condition, player):
    at = player.at
    rows = player.relations[condition[1]]
    places = condition[2]
    flag = condition[3]
    return lambda: (tuple([at[place] for place in places]) in rows) == flag


def _eq_test(condition, player):
    at = player.at
    _, one, other, flag = condition
    return lambda: (at[one] == at[other]) == flag


def _less_test(condition, player):
    at = player.at
    _, one, other, flag = condition
    return lambda: (at[one] < at[other]) == flag


def _last_test(condition, player):
    at = player.at
    _, one, flag = condition
    greatest = player.size - 1
    return lambda: (at[one] == greatest) == flag


def _mark_test(condition, player):
    at = player.at
    _, tape, places, flag = condition
    tapes = player.tapes
    return lambda: (tuple([at[place] for place in places]) in tapes[tape]) == flag


TEST_MAKERS = {
    "rel": _rel_test, "eq": _eq_test, "less": _less_test, "last": _last_test, "mark": _mark_test,
}


def _test(condition, player):
    """Return the function that tells whether a condition holds where the heads stand at that time."""
    make = TEST_MAKERS[condition[0]]
    return make(condition, player)


def _write(tapes, writes):
    """Mark cells of tapes, or take their marks away, as a list of tuples (tape, cell, flag) says in its order."""
    for tape, cell, flag in writes:
        if flag:
            tapes[tape][cell] = True
        else:
            tapes[tape].pop(cell, None)


def _marks_after(marks, writes):
    """Return the marks of a configuration after writes."""
    if not writes:
        return marks
    tapes = [{cell: True for cell in cells} for cells in marks]
    _write(tapes, writes)
    return _as_marks(tapes)


def _as_marks(tapes):
    """Return the marks of a configuration for a list of dictionaries of cells."""
    return tuple([tuple(sorted(cells)) for cells in tapes])


class Player:
    """A machine on a structure that it fits: where its heads stand, and which cells are marked.

    The marked cells of a tape are the keys of a dictionary. The list of the heads' elements, and that of the tapes,
    stay the same ones all the time, since the tests of the conditions look into them.
    """

    def __init__(self, machine, structure):
        heads, tapes, _, rules = machine
        self.size = structure.size
        self.at = [0] * heads
        self.tapes = [{} for _ in tapes]
        self.relations = {name: {row: True for row in rows} for name, _, rows in structure.relations}
        self.choices = {}
        for state, pairs in rules_by_state(rules).items():
            self.choices[state] = [self._choice(index, rule) for index, rule in pairs]

    def _choice(self, index, rule):
        """Return what is to be known of a rule when its state has been reached."""
        _, conditions, actions, goal = rule
        return (index, [_test(condition, self) for condition in conditions], actions, goal)

    def take(self, configuration):
        """Let the heads stand and the cells be marked as in a configuration."""
        self.at[:] = configuration[1]
        self.tapes[:] = [{cell: True for cell in cells} for cells in configuration[2]]

    def configuration(self, state):
        """Return the configuration with this state."""
        return (state, tuple(self.at), _as_marks(self.tapes))

    def moved(self, actions):
        """Return the list of the elements to which actions move the heads, and the list of what they write.

        Nothing is moved or written yet; if a head would go beyond the elements, None is returned.
        """
        at = list(self.at)
        writes = []
        for action in actions:
            word = action[0]
            head = action[1]
            if word == "up":
                at[head] += 1
                if at[head] == self.size:
                    return None
            elif word == "down":
                if at[head] == 0:
                    return None
                at[head] -= 1
            elif word == "zero":
                at[head] = 0
            elif word == "copy":
                at[head] = at[action[2]]
            else:
                writes.append((head, tuple([at[place] for place in action[2]]), action[3]))
        return at, writes

    def following(self, configuration):
        """Return the list of pairs (index of a rule, configuration) of all rules that apply in a configuration."""
        self.take(configuration)
        found = []
        for index, tests, actions, goal in self.choices.get(configuration[0], ()):
            outcome = self.moved(actions) if all([test() for test in tests]) else None
            if outcome is not None:
                at, writes = outcome
                found.append((index, (goal, tuple(at), _marks_after(configuration[2], writes))))
        return found

    def step(self, state):
        """Do what the first rule that applies says, and return the next state, or None if no rule applies."""
        for _, tests, actions, goal in self.choices.get(state, ()):
            for test in tests:
                if not test():
                    break
            else:
                outcome = self.moved(actions)
                if outcome is not None:
                    self.at[:] = outcome[0]
                    _write(self.tapes, outcome[1])
                    return goal
        return None

    def run(self, most):
        """Go on from the state 0 for at most so many steps; return a word, the number of steps and the state."""
        state = 0
        steps = 0
        while state != ACCEPTING and steps < most:
            goal = self.step(state)
            if goal is None:
                return "stops", steps, state
            state = goal
            steps += 1
        if state == ACCEPTING:
            return "accepts", steps, state
        # That no step is left does not say that the run has not ended by itself.
        here = self.configuration(state)
        return ("goes on" if self.following(here) else "stops"), steps, state


def is_configuration(value, machine, size):
    """Tell whether a value of any kind is a configuration of a machine on structures of a size."""
    heads, tapes, states, _ = machine
    if not isinstance(value, tuple) or len(value) != 3 or not is_between(value[0], 0, states - 1):
        return False
    if not _is_row(value[1], heads, size) or not isinstance(value[2], tuple) or len(value[2]) != len(tapes):
        return False
    return all([_are_cells(cells, arity, size) for cells, arity in zip(value[2], tapes)])


def _is_row(value, count, size):
    """Tell whether a value of any kind is a tuple of so many elements."""
    if not isinstance(value, tuple) or len(value) != count:
        return False
    return all([is_between(element, 0, size - 1) for element in value])


def _are_cells(value, arity, size):
    """Tell whether a value of any kind is an ascending tuple of cells, without duplicates."""
    if not isinstance(value, tuple) or not all([_is_row(cell, arity, size) for cell in value]):
        return False
    return all([cell < value[at + 1] for at, cell in enumerate(value[:-1])])
