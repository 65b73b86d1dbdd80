"""Sentences with a pfp that tell what a plain machine accepts, whatever the number of steps."""

from sayso.errors import TooLarge
from sayso.integers import digits_for
from sayso.machines import machine_symbols
from sayso.motion import ACCEPTING
from sayso.phrases import Order
from sayso.phrases import all_of
from sayso.phrases import any_of
from sayso.phrases import flagged
from sayso.phrases import signs_of
from sayso.phrases import there_are
from sayso.previous import Previous
from sayso.renaming import Names
from sayso.shapes import OWN_COUNTS

# The accepting state has the number 0, and so the first state has that of the other one.
NUMBER_OF_FIRST = 1
NUMBER_OF_ACCEPTING = 0


class View:
    """What is said of a stage, with a variable that has another element than the least one."""

    def __init__(self, room, high):
        self.room = room
        self.high = high

    def at_state(self, state, places):
        """Return the formula that says that the machine is in a state, with the heads on elements."""
        return self.room.has_row(NUMBER_OF_FIRST if state == 0 else state, self.high, places)

    def marked(self, tape, cell, flag):
        """Return the formula that says that a cell of a tape is marked, or is not."""
        return flagged(self.room.has_row(self.room.states + tape, self.high, cell), flag)


class Room:
    """The relation of a pfp whose stages are the configurations of a plain machine, one after the other.

    A tuple begins with signs, the binary digits of the number of a state or, behind the states, of a tape: the least
    element is the digit 0, and any other element the digit 1. Behind them stand the elements of the heads or of a
    marked cell, and then the least element. When the accepting state has been reached, all tuples belong to the
    stage, and to all later ones; no tuple with its number does before.
    """

    def __init__(self, machine):
        self.machine = machine
        heads, tapes, states, rules = machine
        self.states = states
        source = Names([name for name, _ in machine_symbols(machine)], [])
        self.order = Order(source, source.fresh(), None)
        self.name = source.fresh()
        self.signs = self.order.fresh(digits_for(states + len(tapes)))
        self.places = self.order.fresh(max([1, heads] + list(tapes)))
        self.reached = sorted(set([0] + [goal for _, _, _, goal in rules if goal != ACCEPTING]))

    def has_row(self, number, high, variables):
        """Return the formula that says that there is the tuple of a number and elements."""
        signs = signs_of(number, len(self.signs), self.order.least, high)
        rest = (self.order.least,) * (len(self.places) - len(variables))
        return ("rel", self.name, signs + tuple(variables) + rest)

    def _rows_of(self, number, count, ways):
        """Return the formula that tells which tuples with a number and so many elements there are."""
        told = []
        for at, sign in enumerate(self.signs):
            told.append(flagged(("eq", sign, self.order.least), not number >> at & 1))
        return all_of(told + self.order.are_least(self.places[count:]) + [any_of(ways)])

    def _view_for(self, number):
        """Return the view that is used for tuples with a number: one of its own signs is another than the least."""
        return View(self, self.signs[number.bit_length() - 1])

    def _state_rows(self, state):
        """Return the formula that tells which tuples for a state there are after a step."""
        heads = self.machine[0]
        places = self.places[:heads]
        number = NUMBER_OF_FIRST if state == 0 else state
        view = self._view_for(number)
        ways = Previous(self.machine, self.order, view).arrivals(state, places)
        if state == 0:
            before = self.order.fresh(heads)
            begun = there_are(before, [any_of([view.at_state(other, before) for other in self.reached])])
            ways.append(all_of(self.order.are_least(places) + [("not", begun)]))
        return self._rows_of(number, heads, ways)

    def _tape_rows(self, tape):
        """Return the formula that tells which tuples for a tape there are after a step."""
        number = self.states + tape
        arity = self.machine[1][tape]
        previous = Previous(self.machine, self.order, self._view_for(number))
        return self._rows_of(number, arity, previous.cell_ways(tape, self.places[:arity], True))

    def _accepting_ways(self):
        """Return the list of formulas of which one holds if the machine has accepted after a step."""
        high = self.order.source.fresh()
        before = self.order.fresh(self.machine[0])
        ways = Previous(self.machine, self.order, View(self, high)).accepting(before)
        if not ways:
            return []
        differs = ("not", ("eq", high, self.order.least))
        accepts_now = there_are([high] + before, [differs, any_of(ways)])
        return [self.has_row(NUMBER_OF_ACCEPTING, high, self.places), accepts_now]

    def whole(self):
        """Return the sentence that the machine accepts, which may still be beyond a bound."""
        least = self.order.least
        found = [self._state_rows(state) for state in self.reached] + self._accepting_ways()
        found.extend([self._tape_rows(tape) for tape in range(len(self.machine[1]))])
        own = tuple(self.signs + self.places)
        fixed = ("pfp", self.name, own, any_of(found), (least,) * len(own))
        is_least = Order(self.order.source, None, None).are_least([least])
        return ("some", (least,), all_of(is_least + [fixed]))


def room_sentence(machine):
    """Return the sentence with a pfp that a plain machine accepts, which may still be beyond a bound."""
    room = Room(machine)
    if len(room.signs) + len(room.places) > max(OWN_COUNTS):
        raise TooLarge("the machine has too many heads, states and tapes")
    return room.whole()
