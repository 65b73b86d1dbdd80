"""Machines with a guess, the sentences that they are made of, and the systems that are made of them."""

from sayso.building import Builder
from sayso.clocks import check_clock
from sayso.clocks import check_decidable
from sayso.clocks import decided_machine
from sayso.errors import BadArgument
from sayso.evaluation import all_rows
from sayso.evaluation import counts_on
from sayso.formulas import check_formula
from sayso.machines import MOST_TAPES
from sayso.machines import check_plain
from sayso.machines import check_run
from sayso.machines import first_configuration
from sayso.machines import machine_symbols
from sayso.motion import Player
from sayso.structures import MOST_ROWS
from sayso.structures import is_name
from sayso.timing import check_exponent
from sayso.timing import timed_system

MOST_GUESSED = 9


def _check_guessing(machine):
    """Raise BadMachine for what is no machine, and BadArgument for a machine without a guess."""
    check_plain(machine)
    if not machine[1]:
        raise BadArgument("the machine has no tape")


def accepts_some(machine, structure, most):
    """Return the first set of cells with which a machine with a guess accepts within so many steps, or None."""
    _check_guessing(machine)
    check_run(machine, structure, most, [MOST_GUESSED] + [MOST_ROWS] * (len(machine[1]) - 1))
    player = Player(machine, structure)
    state, stands, marks = first_configuration(machine)
    cells = all_rows(structure.size, machine[1][0])
    guess = {}
    while True:
        player.take((state, stands, (tuple(guess),) + marks[1:]))
        if player.run(most)[0] == "accepts":
            return sorted(guess)
        if not counts_on(guess, cells):
            return None


def machine_of_guess(sentence):
    """Return a machine that accepts with a guess if what stands in a guess holds with it for the name."""
    check_formula(sentence)
    if sentence[0] != "guess":
        raise BadArgument("the sentence does not begin with a guess")
    _, name, arity, body = sentence
    check_decidable(body)
    check_clock(body, MOST_TAPES - 1)
    builder = Builder()
    return decided_machine(body, builder, {name: builder.fresh_tape(arity)})


def system_of_guess(machine, c, name):
    """Return a system whose last relation tells whether the run with the relation of a name as the guess accepts."""
    _check_guessing(machine)
    check_exponent(c)
    if not is_name(name) or name in dict(machine_symbols(machine)):
        raise BadArgument("the name is none, or a symbol of the machine")
    return timed_system(machine, c, name)
