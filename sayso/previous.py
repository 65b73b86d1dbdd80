"""Formulas that tell of a plain machine after a step, by what was before it."""

from sayso.effects import Effect
from sayso.effects import Teller
from sayso.motion import ACCEPTING
from sayso.phrases import all_of
from sayso.phrases import any_of
from sayso.phrases import there_are
from sayso.rules import rules_by_state


class Previous:
    """What a plain machine was and did before a step.

    A view, an object with methods, says it in formulas: at_state makes one of a state and the variables of the heads,
    marked one of a tape, the variables of a cell and a flag.
    """

    def __init__(self, machine, order, view):
        self.heads = machine[0]
        self.rules = machine[3]
        self.choices = rules_by_state(machine[3])
        self.order = order
        self.view = view
        self.teller = Teller(order, view)

    def _applied(self, rule, effect, before):
        """Return the list of formulas that say that the machine was in the state of a rule, and its conditions held."""
        return [self.view.at_state(rule[0], before)] + self.teller.applying(rule, effect, before)

    def arrivals(self, state, after):
        """Return the list of formulas that say, each of a rule, that it led to a state and to elements of the heads."""
        found = []
        for rule in self.rules:
            if rule[3] == state:
                effect = Effect(self.heads, rule[2])
                before, lost = self.teller.sources(self.heads, effect.ends, after)
                moves = self.teller.moves(effect, before, after)
                found.append(there_are(lost, self._applied(rule, effect, before) + moves))
        return found

    def accepting(self, before):
        """Return the list of formulas that say, each of a rule, that it led from elements to the accepting state."""
        found = []
        for rule in self.rules:
            if rule[3] == ACCEPTING:
                effect = Effect(self.heads, rule[2])
                bounds = self.teller.bounds(effect, before, [])
                found.append(all_of(self._applied(rule, effect, before) + bounds))
        return found

    def cell_ways(self, tape, cell, flag):
        """Return the list of formulas of which one holds if a cell of a tape is marked, or is not, after the step.

        If no rule applied, there is no such step, and what they tell then makes no difference.
        """
        before = self.order.fresh(self.heads)
        ways = []
        for state, pairs in self.choices.items():
            spared = [part for _, rule in pairs for part in self._spared(rule, before, (tape, cell, flag))]
            ways.append(all_of([self.view.at_state(state, before)] + spared))
        found = []
        if ways:
            found.append(all_of([self.view.marked(tape, cell, flag), there_are(before, [any_of(ways)])]))
        for rule in self.rules:
            found.extend(self._written(rule, (tape, cell, flag)))
        return found

    def _spared(self, rule, before, asked):
        """Return the list of formulas that say that a rule of the state did not write the contrary of what is asked.

        It is empty if the rule never does that.
        """
        effect = Effect(self.heads, rule[2])
        elsewhere = [self.teller.not_written(places, before, asked[1])
                     for tape, places, flag in effect.writes if (tape, flag) == (asked[0], not asked[2])]
        if not elsewhere:
            return []
        contraries = [condition[:-1] + (not condition[-1],) for condition in rule[1]]
        return [any_of(self.teller.conditions(contraries, before) + [all_of(elsewhere)])]

    def _written(self, rule, asked):
        """Return the list of formulas that say, each of an action of a rule, that it wrote what is asked, for good."""
        tape, cell, flag = asked
        effect = Effect(self.heads, rule[2])
        found = []
        for at, (written, places, is_mark) in enumerate(effect.writes):
            if (written, is_mark) == (tape, flag):
                before, lost = self.teller.sources(self.heads, places, cell)
                told = [self.view.at_state(rule[0], before)] + self.teller.conditions(rule[1], before)
                told.extend(self.teller.all_stand(places, before, cell))
                for later, others, contrary in effect.writes[at + 1:]:
                    if (later, contrary) == (tape, not flag):
                        told.append(self.teller.not_written(others, before, cell))
                found.append(there_are(lost, told))
        return found
