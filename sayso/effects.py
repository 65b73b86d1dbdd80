"""What the actions of a rule do, told without a structure, and formulas that say so."""

from sayso.phrases import FALSE
from sayso.phrases import all_of
from sayso.phrases import flagged
from sayso.phrases import there_are

# Where a head comes from if it was sent to the element 0; other sources are heads.
ZERO = -1


class Effect:
    """Where the heads go by the actions of a rule, and which cells are written.

    A place is a pair of a source and a number of elements above it, below it if the number is less than 0. ends are
    the places to which the heads go; lows and highs have the extreme places of a source where a head was on its way.
    """

    def __init__(self, heads, actions):
        self.ends = [(head, 0) for head in range(heads)]
        self.lows = {}
        self.highs = {}
        self.writes = []
        for action in actions:
            self._perform(action)

    def _perform(self, action):
        word = action[0]
        if word == "write":
            self.writes.append((action[1], [self.ends[head] for head in action[2]], action[3]))
        elif word == "zero":
            self.ends[action[1]] = (ZERO, 0)
        elif word == "copy":
            self.ends[action[1]] = self.ends[action[2]]
        else:
            source, steps = self.ends[action[1]]
            steps = steps + 1 if word == "up" else steps - 1
            self.ends[action[1]] = (source, steps)
            self.lows[source] = min(steps, self.lows.get(source, 0))
            self.highs[source] = max(steps, self.highs.get(source, 0))


class Teller:
    """Says in formulas what conditions and actions of a machine mean.

    The elements of the heads are those of variables. What is marked is said by a view, an object whose method marked
    makes a formula of a tape, the variables of a cell and a flag; for a machine without tapes it may be None.
    """

    def __init__(self, order, view):
        self.order = order
        self.view = view

    def applying(self, rule, effect, before):
        """Return the list of formulas that say that the conditions of a rule hold, if its moves are told besides."""
        # That a head goes up says by itself that it was not on the greatest element.
        raised = [head for head in effect.highs if effect.highs[head] > 0]
        needed = [one for one in rule[1] if one[0] != "last" or one[2] or one[1] not in raised]
        return self.conditions(needed, before)

    def conditions(self, conditions, before):
        """Return the list of formulas that say that conditions hold."""
        return [self._condition(condition, before) for condition in conditions]

    def _condition(self, condition, before):
        word = condition[0]
        flag = condition[-1]
        if word == "last":
            last = [before[condition[1]]]
            return all_of(self.order.are_greatest(last)) if flag else self.order.are_not_greatest(last)
        if word in ("eq", "less"):
            return flagged((word, before[condition[1]], before[condition[2]]), flag)
        variables = tuple([before[head] for head in condition[2]])
        if word == "mark":
            return self.view.marked(condition[1], variables, flag)
        return flagged(("rel", condition[1], variables), flag)

    def stands(self, place, before, variable):
        """Return the list of formulas that say that a variable has the element of a place."""
        source, steps = place
        if source == ZERO:
            return self.order.above_least(variable, steps) if steps >= 0 else [FALSE]
        if steps < 0:
            return self.order.steps(variable, before[source], -steps)
        return self.order.steps(before[source], variable, steps)

    def _exists(self, place, before):
        """Return the formula that says that a place, which is not its source, is an element."""
        source, steps = place
        if source != ZERO and steps == 1:
            return self.order.are_not_greatest([before[source]])
        if source != ZERO and steps == -1:
            return self.order.are_not_least([before[source]])
        variable = self.order.source.fresh()
        return there_are([variable], self.stands(place, before, variable))

    def bounds(self, effect, before, told):
        """Return the list of formulas that say that no head goes beyond the elements on its way to the told places."""
        extremes = list(effect.highs.items()) + list(effect.lows.items())
        return [self._exists(place, before) for place in extremes if place[1] != 0 and place not in told]

    def all_stand(self, places, before, variables):
        """Return the list of formulas that say that variables have the elements of places."""
        found = []
        for place, variable in zip(places, variables):
            found.extend(self.stands(place, before, variable))
        return found

    def moves(self, effect, before, after):
        """Return the list of formulas that say that the heads go from elements to elements."""
        return self.bounds(effect, before, effect.ends) + self.all_stand(effect.ends, before, after)

    def not_written(self, places, before, cell):
        """Return the formula that says that a cell is another one than that of places."""
        return ("not", all_of(self.all_stand(places, before, cell)))

    def sources(self, heads, places, variables):
        """Return the variables of heads before actions, and the list of those among them that are fresh.

        Where a place is that of a head before the actions, the variable that has its element is that of the head.
        """
        kept = {}
        for place, variable in zip(places, variables):
            kept.setdefault(place, variable)
        before = []
        lost = []
        for head in range(heads):
            if (head, 0) not in kept:
                lost.append(self.order.source.fresh())
            before.append(kept.get((head, 0)) or lost[-1])
        return before, lost
