"""Sentences with a tc that tell what a machine without tapes accepts."""

from sayso.effects import Effect
from sayso.effects import Teller
from sayso.integers import digits_for
from sayso.motion import ACCEPTING
from sayso.phrases import Order
from sayso.phrases import all_of
from sayso.phrases import any_of
from sayso.phrases import equal_parts
from sayso.phrases import signs_of
from sayso.renaming import Names
from sayso.rules import rules_by_state


class Signed:
    """The variables for a configuration of a machine without tapes: some for the state, and one for each head."""

    def __init__(self, machine, order):
        self.order = order
        self.signs = order.fresh(digits_for(machine[2]))
        self.heads = order.fresh(machine[0])

    def variables(self):
        """Return the tuple of all variables."""
        return tuple(self.signs + self.heads)

    def _signs_of(self, state):
        """Return the variables that have the elements which tell of a state."""
        return signs_of(state, len(self.signs), self.order.least, self.order.greatest)

    def row(self, state):
        """Return the variables that have the elements which tell of a state with all heads on 0."""
        return self._signs_of(state) + (self.order.least,) * len(self.heads)

    def has_state(self, state):
        """Return the list of formulas that say that the state is this one."""
        return equal_parts(self.signs, self._signs_of(state))


def _rule_formula(rule, teller, before, after):
    """Return the formula that says that a rule of the state before leads to what is after it."""
    _, _, actions, goal = rule
    effect = Effect(len(before.heads), actions)
    told = teller.applying(rule, effect, before.heads)
    if goal == ACCEPTING:
        # Where the heads are makes no difference any more, and so there is one goal alone.
        told = told + teller.bounds(effect, before.heads, [])
        return all_of(told + equal_parts(after.variables(), after.row(goal)))
    return all_of(told + after.has_state(goal) + teller.moves(effect, before.heads, after.heads))


def closure_sentence(machine):
    """Return the sentence that a machine without tapes accepts, with one tc, which may still be beyond a bound."""
    source = Names([], [])
    order = Order(source, source.fresh(), source.fresh())
    before = Signed(machine, order)
    after = Signed(machine, order)
    teller = Teller(order, None)
    steps = []
    for state, pairs in rules_by_state(machine[3]).items():
        ways = any_of([_rule_formula(rule, teller, before, after) for _, rule in pairs])
        steps.append(all_of(before.has_state(state) + [ways]))
    ends = before.row(0) + after.row(ACCEPTING)
    closure = ("tc", before.variables() + after.variables(), any_of(steps), ends)
    return ("some", (order.least, order.greatest), all_of([order.ends_told(), closure]))
