"""Formulas that tell of a plain machine after a step, by what was before it."""

from sayso.effects import Effect
from sayso.effects import Teller
from sayso.motion import ACCEPTING
from sayso.phrases import all_of
from sayso.phrases import any_of
from sayso.phrases import there_are
from sayso.rules import rules_by_state


class Previous:
    """What a plain machine was and did before a step.

    A view, an object with methods, says it in formulas: at_state makes one of a state and the variables of the heads,
    marked one of a tape, the variables of a cell and a flag.
    """

    def __init__(self, machine, order, view):
        self.heads = machine[0]
        self.rules = machine[3]
        self.choices = rules_by_state(machine[3])
        self.order = order
        self.view = view
        self.teller = Teller(order, view)

    def _applied(self, rule, effect, before):
        """Return the list of formulas that say that the machine was in the state of a rule, and its conditions held."""
        return [self.view.at_state(rule[0], before)] + self.teller.applying(rule, effect, before)

    def arrivals(self, state, after):
        """Return the list of formulas that say, each of a rule, that it led to a state and to elements of the heads."""
        found = []
        for rule in self.rules:
            if rule[3] == state:
                effect = Effect(self.heads, rule[2])
                before, lost = self.teller.sources(effect, after)
                moves = self.teller.moves(effect, before, after)
                found.append(there_are(lost, self._applied(rule, effect, before) + moves))
        return found

    def accepting(self, before):
        """Return the list of formulas that say, each of a rule, that it led from elements to the accepting state."""
        found = []
        for rule in self.rules:
            if rule[3] == ACCEPTING:
                effect = Effect(self.heads, rule[2])
                bounds = self.teller.bounds(effect, before, [])
                found.append(all_of(self._applied(rule, effect, before) + bounds))
        return found

    def _writes(self, state, tape):
        """Tell whether a rule of a state writes on a tape."""
        actions = [action for _, rule in self.choices[state] for action in rule[2]]
        return tape in [action[1] for action in actions if action[0] == "write"]

    def cell_ways(self, tape, cell, flag):
        """Return the list of formulas of which one holds if a cell of a tape is marked, or is not, after the step.

        If no rule applied, there is no such step, and what they tell then makes no difference.
        """
        writing = [state for state in self.choices if self._writes(state, tape)]
        others = [state for state in self.choices if state not in writing]
        found = []
        if others:
            before = self.order.fresh(self.heads)
            present = any_of([self.view.at_state(state, before) for state in others])
            found.append(all_of([self.view.marked(tape, cell, flag), there_are(before, [present])]))
        for state in writing:
            before = self.order.fresh(self.heads)
            ways = any_of([self._cell_after(rule, before, (tape, cell, flag)) for _, rule in self.choices[state]])
            found.append(there_are(before, [self.view.at_state(state, before), ways]))
        return found

    def _cell_after(self, rule, before, asked):
        """Return the formula that says that the conditions of a rule held, and a cell is then marked, or is not."""
        tape, cell, flag = asked
        kept = self.teller.cell(Effect(self.heads, rule[2]), before, asked, self.view.marked(tape, cell, flag))
        return all_of(self.teller.conditions(rule[1], before) + [kept])
