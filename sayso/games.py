"""Games with pebbles on two structures, and the sentences that part them."""

from sayso.errors import BadArgument
from sayso.errors import NotFitting
from sayso.errors import TooLarge
from sayso.formulas import within_bounds
from sayso.integers import is_between
from sayso.integers import power
from sayso.parting import Writer
from sayso.pebbles import Game
from sayso.pebbles import is_position
from sayso.pebbles import sound_test

MOST_PEBBLES = 3
MOST_POSITIONS = 4000


def _check_comparable(first, second):
    """Raise NotFitting unless two structures have the same names with the same arities."""
    if sorted(first.symbols()) != sorted(second.symbols()):
        raise NotFitting("the structures are not comparable")


def _check_pebbles(k):
    if not is_between(k, 1, MOST_PEBBLES):
        raise BadArgument("the number of pebbles is an integer from 1 to 3")


def _check_count(first, second, k):
    """Raise TooLarge if the game has too many positions."""
    if power(1 + first.size * second.size, k) > MOST_POSITIONS:
        raise TooLarge("the game has too many positions")


def is_sound(first, second, position):
    """Tell whether a value of any kind is a position that is sound."""
    _check_comparable(first, second)
    if not is_position(first, second, position):
        return False
    test = sound_test(first, second)
    return test(position)


def _answered(first, second, table, entry):
    """Tell whether each element has an answer with which the position is in a table, for one entry of its positions."""
    found = {}
    for position in table:
        rest = position[:entry] + position[entry + 1:]
        chosen, answers = found.setdefault(rest, ({}, {}))
        if position[entry] is not None:
            chosen[position[entry][0]] = True
            answers[position[entry][1]] = True
    return all([len(one) == first.size and len(other) == second.size for one, other in found.values()])


def is_keeping(first, second, k, table):
    """Tell whether a value of any kind is a keeping table for k pebbles."""
    _check_pebbles(k)
    _check_comparable(first, second)
    if not isinstance(table, list):
        return False
    if not all([is_position(first, second, position) and len(position) == k for position in table]):
        return False
    test = sound_test(first, second)
    if (None,) * k not in table or not all([test(position) for position in table]):
        return False
    return all([_answered(first, second, table, entry) for entry in range(k)])


def length(first, second, position):
    """Return the least number of rounds in which the challenger can win, or None if the other player can go on."""
    if not is_position(first, second, position):
        raise BadArgument("this is no position of a game with 1 to 3 pebbles on the structures")
    _check_comparable(first, second)
    _check_count(first, second, len(position))
    return Game(first, second, len(position)).lengths.get(position)


def _checked_game(first, second, k):
    """Return the game with k pebbles, or raise an error."""
    _check_pebbles(k)
    _check_comparable(first, second)
    _check_count(first, second, k)
    return Game(first, second, k)


def keeping_table(first, second, k):
    """Return the ascending list of the positions from which the other player can go on, or None."""
    game = _checked_game(first, second, k)
    if (None,) * k in game.lengths:
        return None
    return [position for position in game.positions if position not in game.lengths]


def parting(first, second, k):
    """Return a sentence of the least rank that holds in the first structure and not in the second one, or None."""
    game = _checked_game(first, second, k)
    start = (None,) * k
    if start not in game.lengths:
        return None
    return within_bounds(Writer(game).formula_of(start))
