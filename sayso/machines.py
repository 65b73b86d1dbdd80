"""Machines, their configurations and their runs."""

from sayso.errors import BadArgument
from sayso.errors import BadMachine
from sayso.errors import TooLarge
from sayso.integers import is_between
from sayso.integers import power
from sayso.meaning import check_symbols
from sayso.motion import ACCEPTING
from sayso.motion import Player
from sayso.motion import is_configuration
from sayso.rules import is_action
from sayso.rules import is_condition
from sayso.rules import rules_by_state
from sayso.structures import LARGEST_ARITY
from sayso.structures import MOST_ROWS

MOST_HEADS = 12
MOST_TAPES = 6
MOST_STATES = 4000
MOST_RULES = 12000
MOST_IN_RULE = 12
MOST_STEPS = 200000


def _check_rule(rule, heads, tapes, states):
    """Raise BadMachine for what is no rule of a machine with these heads, tapes and states."""
    if not isinstance(rule, tuple) or len(rule) != 4:
        raise BadMachine("a rule is a tuple of a state, conditions, actions and a state")
    state, conditions, actions, goal = rule
    if not is_between(state, 0, states - 1) or state == ACCEPTING or not is_between(goal, 0, states - 1):
        raise BadMachine("a rule leads from a state, but not the accepting one, to a state")
    if not isinstance(conditions, tuple) or len(conditions) > MOST_IN_RULE:
        raise BadMachine("the conditions of a rule are a tuple of at most 12")
    if not all([is_condition(condition, heads, tapes) for condition in conditions]):
        raise BadMachine("there is no such condition of this machine")
    if not isinstance(actions, tuple) or len(actions) > MOST_IN_RULE:
        raise BadMachine("the actions of a rule are a tuple of at most 12")
    if not all([is_action(action, heads, tapes) for action in actions]):
        raise BadMachine("there is no such action of this machine")


def _arities_in(rules):
    """Return the dictionary from the symbols in rules to their arities, and check that these agree."""
    found = {}
    for _, conditions, _, _ in rules:
        for condition in conditions:
            if condition[0] == "rel" and found.setdefault(condition[1], len(condition[2])) != len(condition[2]):
                raise BadMachine("a name has two numbers of heads")
    return found


def check_machine(machine):
    """Return None, or raise BadMachine for a value of any kind that is not a machine."""
    if not isinstance(machine, tuple) or len(machine) != 4:
        raise BadMachine("a machine is a tuple of heads, tapes, states and rules")
    heads, tapes, states, rules = machine
    if not is_between(heads, 0, MOST_HEADS):
        raise BadMachine("the number of heads is an integer from 0 to 12")
    if not isinstance(tapes, tuple) or len(tapes) > MOST_TAPES:
        raise BadMachine("the tapes are a tuple of at most 6")
    if not all([is_between(arity, 0, LARGEST_ARITY) for arity in tapes]):
        raise BadMachine("the arity of a tape is an integer from 0 to 6")
    if not is_between(states, 2, MOST_STATES):
        raise BadMachine("the number of states is an integer from 2 to 4000")
    if not isinstance(rules, tuple) or len(rules) > MOST_RULES:
        raise BadMachine("the rules are a tuple of at most 12000")
    for rule in rules:
        _check_rule(rule, heads, tapes, states)
    _arities_in(rules)


def machine_symbols(machine):
    """Return the list of pairs (name, arity) of the symbols of a machine in ascending order."""
    check_machine(machine)
    return sorted(_arities_in(machine[3]).items())


def _exclude_each_other(rules):
    """Tell whether each two of the rules of one state have a condition with both flags."""
    # A set of rules is an integer here, with a binary digit for each rule: there may be 12000 rules of one state.
    having = {}
    for at, rule in enumerate(rules):
        for condition in rule[1]:
            having[condition] = having.get(condition, 0) | 1 << at
    every = (1 << len(rules)) - 1
    for at, rule in enumerate(rules):
        excluded = 1 << at
        for condition in rule[1]:
            excluded = excluded | having.get(condition[:-1] + (not condition[-1],), 0)
        if excluded != every:
            return False
    return True


def _is_plain(machine):
    groups = [[rule for _, rule in pairs] for pairs in rules_by_state(machine[3]).values()]
    return all([_exclude_each_other(rules) for rules in groups])


def is_plain(machine):
    """Tell whether a value of any kind is a plain machine."""
    try:
        check_machine(machine)
    except BadMachine:
        return False
    return _is_plain(machine)


def first_configuration(machine):
    """Return the configuration in which a machine begins."""
    check_machine(machine)
    return (0, (0,) * machine[0], ((),) * len(machine[1]))


def check_fits(machine, structure):
    """Raise NotFitting unless a structure has the symbols of a machine."""
    check_symbols(list(_arities_in(machine[3]).items()), structure)


def next_configurations(machine, structure, configuration):
    """Return the ascending list of pairs (index, configuration) of all rules that apply in a configuration."""
    check_machine(machine)
    if not is_configuration(configuration, machine, structure.size):
        raise BadArgument("this is no configuration of the machine on the structure")
    check_fits(machine, structure)
    return Player(machine, structure).following(configuration)


def check_plain(machine):
    """Raise BadMachine for what is no machine, and BadArgument for a machine that is not plain."""
    check_machine(machine)
    if not _is_plain(machine):
        raise BadArgument("the machine is not plain")


def check_run(machine, structure, most, bounds):
    """Raise an error unless a run of so many steps may begin; bounds tell how many cells each tape may have."""
    if not is_between(most, 0, MOST_STEPS):
        raise BadArgument("the number of steps is an integer from 0 to 200000")
    check_fits(machine, structure)
    for arity, bound in zip(machine[1], bounds):
        if power(structure.size, arity) > bound:
            raise TooLarge("a tape has too many cells")


def run(machine, structure, most):
    """Return how the run of a plain machine ends, the number of steps, and the configuration that is reached."""
    check_plain(machine)
    check_run(machine, structure, most, [MOST_ROWS] * len(machine[1]))
    player = Player(machine, structure)
    word, steps, state = player.run(most)
    return (word, steps, player.configuration(state))
