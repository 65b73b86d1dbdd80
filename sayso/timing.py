"""Systems of definitions that tell, for each time, where the heads of a plain machine are and what is marked."""

from sayso.errors import BadArgument
from sayso.errors import TooLarge
from sayso.fixed import MOST_DEFINITIONS
from sayso.formulas import within_bounds
from sayso.integers import is_between
from sayso.machines import machine_symbols
from sayso.motion import ACCEPTING
from sayso.phrases import Order
from sayso.phrases import all_of
from sayso.phrases import any_of
from sayso.phrases import flagged
from sayso.phrases import there_are
from sayso.previous import Previous
from sayso.renaming import Names
from sayso.shapes import OWN_COUNTS

MOST_EXPONENT = 3


def check_exponent(c):
    """Raise BadArgument for what is no exponent of a clock."""
    if not is_between(c, 1, MOST_EXPONENT):
        raise BadArgument("the exponent is an integer from 1 to 3")


def _check_counts(machine, c):
    """Raise TooLarge if the system of a machine would have too many definitions, or one with too many variables."""
    heads, tapes, states, _ = machine
    if states + 2 * len(tapes) + 1 > MOST_DEFINITIONS:
        raise TooLarge("the system would have too many definitions")
    if c + max([heads] + list(tapes)) > max(OWN_COUNTS):
        raise TooLarge("a definition would have too many variables")


class View:
    """What is said of a plain machine at the time of some variables, by the names of a system."""

    def __init__(self, timed, time):
        self.timed = timed
        self.time = tuple(time)

    def at_state(self, state, places):
        """Return the formula that says that the machine is in a state, with the heads on elements."""
        return ("rel", self.timed.state_names[state], self.time + tuple(places))

    def marked(self, tape, cell, flag):
        """Return the formula that says that a cell of a tape is marked, or is not."""
        return ("rel", self.timed.tape_name(tape, flag), self.time + tuple(cell))


class Timed:
    """The names of a system for a plain machine, and its definitions.

    There is a relation for each state, but the accepting one: the times and the elements of the heads when the machine
    is in it. For each tape there are two: the times and the cells that are marked at them, and those that are not.
    """

    def __init__(self, machine, c, guessed):
        self.machine = machine
        self.c = c
        self.guessed = guessed
        barred = [name for name, _ in machine_symbols(machine)]
        source = Names(barred if guessed is None else barred + [guessed], [])
        self.order = Order(source, None, None)
        self.state_names = self.order.fresh(machine[2])
        self.mark_names = self.order.fresh(len(machine[1]))
        self.blank_names = self.order.fresh(len(machine[1]))

    def tape_name(self, tape, flag):
        """Return the name of the relation of the cells of a tape that are marked, or are not."""
        return self.mark_names[tape] if flag else self.blank_names[tape]

    def previous_at(self, time):
        """Return what can be told of a step that begins at the time of some variables."""
        return Previous(self.machine, self.order, View(self, time))

    def _after(self, old, time, ways):
        """Return the list of formulas that say that one of the ways was gone from the time before a time."""
        if not ways:
            return []
        return [there_are(old, [self.order.next_rows(old, time), any_of(ways)])]

    def state_definition(self, state):
        """Return the definition of a state."""
        time = self.order.fresh(self.c)
        places = self.order.fresh(self.machine[0])
        old = self.order.fresh(self.c)
        begun = self.order.are_least(time + places) if state == 0 else []
        body = any_of(begun + self._after(old, time, self.previous_at(old).arrivals(state, places)))
        return (self.state_names[state], tuple(time + places), body)

    def tape_definition(self, tape, flag):
        """Return the definition of the cells of a tape that are marked, or are not, at each time."""
        time = self.order.fresh(self.c)
        cell = self.order.fresh(self.machine[1][tape])
        old = self.order.fresh(self.c)
        begun = self._begun(tape, flag, time, cell)
        body = any_of(begun + self._after(old, time, self.previous_at(old).cell_ways(tape, cell, flag)))
        return (self.tape_name(tape, flag), tuple(time + cell), body)

    def _begun(self, tape, flag, time, cell):
        """Return the list of formulas that say that a cell is marked, or is not, when the run begins."""
        if tape == 0 and self.guessed is not None:
            guess = ("rel", self.guessed, tuple(cell))
            return [all_of(self.order.are_least(time) + [flagged(guess, flag)])]
        return [] if flag else self.order.are_least(time)

    def last_definition(self):
        """Return the definition that holds for all elements if a rule leads to the accepting state in time."""
        time = self.order.fresh(self.c)
        before = self.order.fresh(self.machine[0])
        ways = self.previous_at(time).accepting(before)
        body = any_of(ways)
        if ways:
            body = there_are(time + before, [self.order.are_not_greatest(time), body])
        return (self.state_names[ACCEPTING], (self.order.source.fresh(),), body)


def timed_system(machine, c, guessed):
    """Return the system of a plain machine; the name of a relation may be that of its guess, or None."""
    _check_counts(machine, c)
    timed = Timed(machine, c, guessed)
    found = [timed.state_definition(state) for state in range(machine[2]) if state != ACCEPTING]
    for tape in range(len(machine[1])):
        found.append(timed.tape_definition(tape, True))
        found.append(timed.tape_definition(tape, False))
    found.append(timed.last_definition())
    for _, _, body in found:
        within_bounds(body)
    return found
