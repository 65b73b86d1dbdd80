"""Sentences with a pfp that tell what a plain machine accepts, whatever the number of steps."""

from sayso.errors import TooLarge
from sayso.integers import digits_for
from sayso.machines import machine_symbols
from sayso.motion import ACCEPTING
from sayso.phrases import Order
from sayso.phrases import all_of
from sayso.phrases import any_of
from sayso.phrases import equal_parts
from sayso.phrases import flagged
from sayso.phrases import signs_of
from sayso.phrases import there_are
from sayso.previous import Previous
from sayso.renaming import Names
from sayso.shapes import OWN_COUNTS


class Room:
    """The relation of a pfp whose stages are the configurations of a plain machine, one after the other.

    A tuple begins with signs, which write the number of a state or, behind the states, of a tape. Behind them stand
    the elements of the heads or of a marked cell, and then the least element. When the accepting state has been
    reached, all tuples belong to the stage, and to all later ones; no tuple with its number does before.
    """

    def __init__(self, machine):
        self.machine = machine
        heads, tapes, states, rules = machine
        source = Names([name for name, _ in machine_symbols(machine)], [])
        self.order = Order(source, source.fresh(), source.fresh())
        self.name = source.fresh()
        self.signs = self.order.fresh(digits_for(states + len(tapes)))
        self.places = self.order.fresh(max([1, heads] + list(tapes)))
        self.previous = Previous(machine, self.order, self)
        self.reached = sorted(set([0] + [goal for _, _, _, goal in rules if goal != ACCEPTING]))

    def _row(self, number, variables):
        """Return the arguments that stand for a state or a tape with elements."""
        row = signs_of(number, len(self.signs), self.order) + tuple(variables)
        return row + (self.order.least,) * (len(self.places) - len(variables))

    def at_state(self, state, places):
        """Return the formula that says that the machine is in a state, with the heads on elements."""
        return ("rel", self.name, self._row(state, places))

    def marked(self, tape, cell, flag):
        """Return the formula that says that a cell of a tape is marked, or is not."""
        return flagged(("rel", self.name, self._row(self.machine[2] + tape, cell)), flag)

    def _has_number(self, number):
        """Return the list of formulas that say that the signs write a number."""
        return equal_parts(self.signs, signs_of(number, len(self.signs), self.order))

    def _rows_of(self, number, count, ways):
        """Return the list of a formula, or none, that tells which tuples with a number and so many elements exist."""
        if not ways:
            return []
        rest = self.order.are_least(self.places[count:])
        return [all_of(self._has_number(number) + rest + [any_of(ways)])]

    def _not_begun(self):
        """Return the formula that says that there was no state."""
        before = self.order.fresh(self.machine[0])
        return ("not", there_are(before, [any_of([self.at_state(state, before) for state in self.reached])]))

    def body(self):
        """Return the formula of the pfp."""
        heads, tapes, states, _ = self.machine
        places = self.places[:heads]
        found = []
        for state in self.reached:
            ways = self.previous.arrivals(state, places)
            if state == 0:
                ways.append(all_of(self.order.are_least(places) + [self._not_begun()]))
            found.extend(self._rows_of(state, heads, ways))
        before = self.order.fresh(heads)
        ways = self.previous.accepting(before)
        if ways:
            found.extend([self.at_state(ACCEPTING, places), there_are(before, [any_of(ways)])])
        for tape, arity in enumerate(tapes):
            ways = self.previous.cell_ways(tape, self.places[:arity], True)
            found.extend(self._rows_of(states + tape, arity, ways))
        return any_of(found)

    def whole(self):
        """Return the sentence that the machine accepts, which may still be beyond a bound."""
        fixed = ("pfp", self.name, tuple(self.signs + self.places), self.body(), self._row(ACCEPTING, ()))
        return ("some", (self.order.least, self.order.greatest), all_of([self.order.ends_told(), fixed]))


def room_sentence(machine):
    """Return the sentence with a pfp that a plain machine accepts, which may still be beyond a bound."""
    room = Room(machine)
    if len(room.signs) + len(room.places) > max(OWN_COUNTS):
        raise TooLarge("the machine has too many heads, states and tapes")
    return room.whole()
