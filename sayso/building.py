"""Machines that are put together rule by rule."""

from sayso.motion import ACCEPTING


class Builder:
    """A machine that grows. Its states 0 and 1 are there from the beginning."""

    def __init__(self):
        self.heads = 0
        self.tapes = []
        self.states = ACCEPTING + 1
        self.rules = []

    def fresh_state(self):
        """Return a state that no rule has yet."""
        self.states += 1
        return self.states - 1

    def fresh_heads(self, count):
        """Return the list of so many heads that no rule has yet."""
        self.heads += count
        return list(range(self.heads - count, self.heads))

    def fresh_tape(self, arity):
        """Return a tape of this arity that no rule has yet."""
        self.tapes.append(arity)
        return len(self.tapes) - 1

    def add_rule(self, state, conditions, actions, goal):
        """Add a rule; its conditions and actions are lists."""
        self.rules.append((state, tuple(conditions), tuple(actions), goal))

    def add_branch(self, state, condition, yes, no):
        """Add the two rules that lead to one state if a condition without its flag holds, and to another if not."""
        self.add_rule(state, [condition + (True,)], [], yes)
        self.add_rule(state, [condition + (False,)], [], no)

    def add_advance(self, state, given, first, heads, goals):
        """Add the rules that move heads from their tuple to the next one, or from the last one to the first.

        They apply under given conditions, and begin with the first actions. The goals are the state after a step to a
        next tuple, and the state after that to the first tuple.
        """
        for at, head in enumerate(heads):
            lasts = [("last", later, True) for later in heads[at + 1:]]
            moves = [("up", head)] + [("zero", later) for later in heads[at + 1:]]
            self.add_rule(state, given + [("last", head, False)] + lasts, first + moves, goals[0])
        lasts = [("last", head, True) for head in heads]
        self.add_rule(state, given + lasts, first + [("zero", head) for head in heads], goals[1])

    def built(self):
        """Return the machine."""
        return (self.heads, tuple(self.tapes), self.states, tuple(self.rules))


def heads_of(head_of, variables):
    """Return the tuple of the heads of variables."""
    return tuple([head_of[variable] for variable in variables])


def with_heads(head_of, variables, heads):
    """Return a dictionary from variables to heads in which some variables have other heads, or get one."""
    found = dict(head_of)
    for variable, head in zip(variables, heads):
        found[variable] = head
    return found
