"""The answers of the desk about a sentence and structures."""

from sayso.clocks import clock_of_sentence
from sayso.counts import count_of_bound
from sayso.errors import BadArgument
from sayso.errors import NotFitting
from sayso.errors import TooLarge
from sayso.formulas import depth
from sayso.formulas import parts
from sayso.formulas import rank
from sayso.formulas import symbols
from sayso.formulas import width
from sayso.games import length
from sayso.guesses import accepts_some
from sayso.guesses import machine_of_guess
from sayso.heads import MOST_SEARCHED
from sayso.heads import accepts
from sayso.heads import heads_of_sentence
from sayso.integers import power
from sayso.machines import MOST_STEPS
from sayso.machines import run
from sayso.meaning import cost
from sayso.meaning import doublings
from sayso.meaning import holds
from sayso.room import room_of_sentence


def _yes_or_no(flag):
    return "yes" if flag else "no"


def answer_numbers(sentence):
    """Return the rank, the width, the number of parts and the depth of a sentence."""
    numbers = [rank(sentence), width(sentence), parts(sentence), depth(sentence)]
    return " ".join([str(number) for number in numbers])


def answer_holds(sentence, structure):
    """Return whether a sentence holds in a structure, or why this is not told."""
    try:
        return _yes_or_no(holds(sentence, structure, {}))
    except NotFitting:
        return "not fitting"
    except TooLarge:
        return "too large"


def answer_part(first, second, k):
    """Return whether a game with k pebbles parts two structures, or why this is not told."""
    try:
        rounds = length(first, second, (None,) * k)
    except NotFitting:
        return "not fitting"
    except TooLarge:
        return "too large"
    # There is a keeping table exactly if the other player can go on for ever.
    return "same" if rounds is None else f"parted {rounds}"


def _within(number, most):
    """Return a number, or raise TooLarge if it is more than told."""
    if number > most:
        raise TooLarge("a number is more than told")
    return number


def _accepts_by_heads(machine, sentence, structure):
    bound = count_of_bound(sentence, ("some", "all", "tc"))
    states = 10 * (parts(sentence) + bound) + 2
    _within(states * power(structure.size, bound), MOST_SEARCHED)
    return accepts(machine, structure)


def _accepts_by_clock(machine, sentence, structure):
    most = _within(40 * cost(sentence, structure.size), MOST_STEPS)
    return run(machine, structure, most)[0] == "accepts"


def _accepts_by_guess(machine, sentence, structure):
    # That there are at most 9 cells to guess is looked at by accepts_some.
    most = _within(40 * cost(sentence[3], structure.size), MOST_STEPS)
    return accepts_some(machine, structure, most) is not None


def _accepts_by_room(machine, sentence, structure):
    _, variables, (_, _, own, body, _) = sentence
    rows = power(structure.size, len(own))
    work = rows * (cost(body, structure.size) + 1) * (doublings(rows) + 2)
    most = _within(100 * (work + power(structure.size, len(variables))), MOST_STEPS)
    return run(machine, structure, most)[0] == "accepts"


ACCEPTERS = {
    "heads": _accepts_by_heads, "clock": _accepts_by_clock, "guess": _accepts_by_guess, "room": _accepts_by_room,
}


def _machine_by(way, sentence):
    """Return the machine of a kind that is made of a sentence."""
    if way == "heads":
        return heads_of_sentence(sentence)
    if way == "clock":
        return clock_of_sentence(sentence)
    if way == "guess":
        return machine_of_guess(sentence)
    return room_of_sentence(sentence)


def answer_by(way, sentence, structure):
    """Return whether the machine of a kind that is made of a sentence accepts a structure, or why this is not told."""
    fits = all([symbol in structure.symbols() for symbol in symbols(sentence)])
    try:
        machine = _machine_by(way, sentence)
    except BadArgument:
        return "not so"
    except TooLarge:
        return "too large" if fits else "not fitting"
    if not fits:
        return "not fitting"
    accepts_by = ACCEPTERS[way]
    try:
        return _yes_or_no(accepts_by(machine, sentence, structure))
    except TooLarge:
        return "too large"
