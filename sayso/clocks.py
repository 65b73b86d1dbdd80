"""Machines with a clock: plain machines made of sentences with lfp, and systems made of plain machines."""

from sayso.building import Builder
from sayso.counts import count_of_bound
from sayso.counts import count_of_kinds
from sayso.deciding import Decision
from sayso.deciding import add_decision
from sayso.errors import BadArgument
from sayso.errors import TooLarge
from sayso.formulas import free
from sayso.formulas import parts
from sayso.machines import MOST_HEADS
from sayso.machines import MOST_STATES
from sayso.machines import MOST_TAPES
from sayso.machines import check_plain
from sayso.motion import ACCEPTING
from sayso.timing import check_exponent
from sayso.timing import timed_system


def check_decidable(formula):
    """Raise BadArgument unless a formula is one without free variables of which a machine with a clock is made."""
    if free(formula):
        raise BadArgument("a formula with free variables is no sentence")
    if count_of_kinds(formula, ("tc", "pfp", "guess")):
        raise BadArgument("the sentence contains a tc, a pfp or a guess")


def check_clock(formula, tapes):
    """Raise TooLarge if the machine with a clock for a formula, with so many tapes at most, would be beyond a bound."""
    bound = count_of_bound(formula, ("some", "all", "lfp"))
    if bound + count_of_bound(formula, ("lfp",)) > MOST_HEADS or count_of_kinds(formula, ("lfp",)) > tapes:
        raise TooLarge("the sentence has too many variables or lfp")
    if 20 * (parts(formula) + bound) + 2 > MOST_STATES:
        raise TooLarge("the sentence has too many parts")


def decided_machine(formula, builder, tape_of):
    """Return the machine that accepts if a formula holds, and stops otherwise, with the relations of names on tapes."""
    stopping = builder.fresh_state()
    add_decision(formula, Decision(builder, ({}, tape_of), 0, ACCEPTING, stopping))
    return builder.built()


def clock_of_sentence(sentence):
    """Return a plain machine that accepts the structures in which a sentence holds, and stops on others."""
    check_decidable(sentence)
    check_clock(sentence, MOST_TAPES)
    return decided_machine(sentence, Builder(), {})


def system_of_clock(machine, c):
    """Return a system whose last relation tells whether the run of a plain machine accepts in time."""
    check_plain(machine)
    check_exponent(c)
    return timed_system(machine, c, None)
