"""Machines without tapes: whether they accept a structure, and the sentences with tc that say so."""

from sayso.building import Builder
from sayso.closing import closure_sentence
from sayso.counts import count_of_bound
from sayso.counts import count_of_kinds
from sayso.counts import is_denied
from sayso.errors import BadArgument
from sayso.errors import TooLarge
from sayso.formulas import free
from sayso.formulas import parts
from sayso.formulas import within_bounds
from sayso.guessing import Way
from sayso.guessing import add_way
from sayso.integers import digits_for
from sayso.integers import power
from sayso.machines import MOST_HEADS
from sayso.machines import MOST_STATES
from sayso.machines import check_fits
from sayso.machines import check_machine
from sayso.machines import first_configuration
from sayso.motion import ACCEPTING
from sayso.motion import Player
from sayso.motion import is_configuration

MOST_SEARCHED = 20000
MOST_REFUSED = 2000
MOST_IN_SENTENCE = 4


def _check_tapeless(machine):
    """Raise BadMachine for what is no machine, and BadArgument for a machine with tapes."""
    check_machine(machine)
    if machine[1]:
        raise BadArgument("the machine has tapes")


def _check_search(machine, structure, most):
    """Raise an error unless a machine without tapes has at most so many configurations on a structure that it fits."""
    _check_tapeless(machine)
    check_fits(machine, structure)
    if machine[2] * power(structure.size, machine[0]) > most:
        raise TooLarge("the machine has too many configurations on the structure")


def _way_back(steps, configuration):
    """Return the list of indexes of rules that led to a configuration, the first one first."""
    found = []
    while steps[configuration] is not None:
        index, configuration = steps[configuration]
        found.append(index)
    return found[::-1]


def path(machine, structure):
    """Return a list of indexes of rules, as short as possible, that lead to the accepting state, or None."""
    _check_search(machine, structure, MOST_SEARCHED)
    player = Player(machine, structure)
    first = first_configuration(machine)
    # For each configuration that was reached, the rule that led there first and where from.
    steps = {first: None}
    level = [first]
    while level:
        reached = []
        for here in level:
            for index, after in player.following(here):
                if after not in steps:
                    steps[after] = (index, here)
                    reached.append(after)
                    if after[0] == ACCEPTING:
                        return _way_back(steps, after)
        level = reached
    return None


def accepts(machine, structure):
    """Tell whether a machine without tapes accepts a structure."""
    return path(machine, structure) is not None


def _levels(machine, structure):
    """Return the refusal of a machine that may be searched through, or None if it accepts."""
    player = Player(machine, structure)
    reached = [first_configuration(machine)]
    seen = {reached[0]: True}
    levels = [[]]
    while reached:
        levels.append(sorted(levels[-1] + reached))
        before = reached
        reached = []
        for here in before:
            for _, after in player.following(here):
                if after[0] == ACCEPTING:
                    return None
                if after not in seen:
                    seen[after] = True
                    reached.append(after)
    return levels[1:] + [list(levels[-1])]


def refusal(machine, structure):
    """Return the refusal of a machine without tapes, or None if it accepts the structure."""
    _check_search(machine, structure, MOST_REFUSED)
    return _levels(machine, structure)


def _are_configurations(value, machine, size):
    """Tell whether a value of any kind is a list of configurations."""
    return isinstance(value, list) and all([is_configuration(item, machine, size) for item in value])


def is_refusal(machine, structure, levels):
    """Tell whether a value of any kind is a refusal."""
    _check_search(machine, structure, MOST_REFUSED)
    if not isinstance(levels, list):
        return False
    if not all([_are_configurations(level, machine, structure.size) for level in levels]):
        return False
    # The first level and the rules tell each level, and where the list ends: there is one refusal at most.
    return levels == _levels(machine, structure)


def sentence_of_heads(machine):
    """Return a sentence with one tc that holds in structures of two elements and more that the machine accepts."""
    _check_tapeless(machine)
    if machine[0] + digits_for(machine[2]) > MOST_IN_SENTENCE:
        raise TooLarge("the machine has too many heads and states")
    return within_bounds(closure_sentence(machine))


def _check_searchable(sentence):
    """Raise BadFormula for what is no formula, and BadArgument for one of which no machine without tapes is made."""
    if free(sentence):
        raise BadArgument("a formula with free variables is no sentence")
    if count_of_kinds(sentence, ("lfp", "pfp", "guess")):
        raise BadArgument("the sentence contains an lfp, a pfp or a guess")
    if is_denied(sentence, "tc", False):
        raise BadArgument("a tc of the sentence is in an odd number of not")


def heads_of_sentence(sentence):
    """Return a machine without tapes that accepts the structures in which a sentence holds."""
    _check_searchable(sentence)
    bound = count_of_bound(sentence, ("some", "all", "tc"))
    if bound > MOST_HEADS or 10 * (parts(sentence) + bound) + 2 > MOST_STATES:
        raise TooLarge("the sentence has too many variables or parts")
    builder = Builder()
    add_way(sentence, Way(builder, {}, False, 0, ACCEPTING))
    return builder.built()
