"""Positions of a game with pebbles on two structures, and from which of them the challenger can win."""

from sayso.evaluation import all_rows
from sayso.integers import is_between

MOST_ENTRIES = 3


def _is_entry(value, first, second):
    """Tell whether a value of any kind is an entry of a position."""
    if value is None:
        return True
    if not isinstance(value, tuple) or len(value) != 2:
        return False
    return is_between(value[0], 0, first.size - 1) and is_between(value[1], 0, second.size - 1)


def is_position(first, second, value):
    """Tell whether a value of any kind is a position of a game on two structures."""
    if not isinstance(value, tuple) or not 1 <= len(value) <= MOST_ENTRIES:
        return False
    return all([_is_entry(entry, first, second) for entry in value])


def told_apart(first, second, pairs):
    """Return what tells the elements of pairs in the first structure from those in the second one, or None.

    It is a tuple of a word or the name of a relation and the places of pairs in their list, and a flag: whether this
    holds in the first structure.
    """
    for one, other in all_rows(len(pairs), 2):
        if (pairs[one][0] == pairs[other][0]) != (pairs[one][1] == pairs[other][1]):
            return ("=", (one, other), pairs[one][0] == pairs[other][0])
    tables = {name: {row: True for row in rows} for name, _, rows in second.relations}
    for name, arity, rows in first.relations:
        table = {row: True for row in rows}
        for places in all_rows(len(pairs), arity):
            here = tuple([pairs[place][0] for place in places]) in table
            if here != (tuple([pairs[place][1] for place in places]) in tables[name]):
                return (name, places, here)
    return None


def sound_test(first, second):
    """Return the function that tells whether a position is sound."""
    known = {}

    def is_sound_now(position):
        # The order of the pairs, and how often one stands there, makes no difference.
        pairs = tuple(sorted(set([entry for entry in position if entry is not None])))
        if pairs not in known:
            known[pairs] = told_apart(first, second, pairs) is None
        return known[pairs]

    return is_sound_now


class Game:
    """A game with pebbles on two comparable structures.

    The moves of a round, without the entry, are pairs: whether the challenger chooses in the first structure, and the
    list of the pairs that may come of the answers. The dictionary of lengths has the positions from which the
    challenger can win.
    """

    def __init__(self, first, second, pebbles):
        self.first = first
        self.second = second
        chosen = [(True, [(one, other) for other in range(second.size)]) for one in range(first.size)]
        answered = [(False, [(one, other) for one in range(first.size)]) for other in range(second.size)]
        self.choices = chosen + answered
        self.entries = [None] + [pair for _, pairs in chosen for pair in pairs]
        self.positions = [()]
        for _ in range(pebbles):
            self.positions = [position + (entry,) for position in self.positions for entry in self.entries]
        is_sound_now = sound_test(first, second)
        self.lengths = {position: 0 for position in self.positions if not is_sound_now(position)}
        self._find_lengths(pebbles)

    def _find_lengths(self, pebbles):
        """Find the positions from which the challenger can win, round by round."""
        # What the challenger can reach by a change of one entry does not depend on what the entry was.
        waiting = [(rest, at) for rest in {position[1:]: True for position in self.positions} for at in range(pebbles)]
        rounds = 0
        won = waiting
        while won:
            rounds += 1
            won = [(rest, at) for rest, at in waiting if self._wins_by(rest, at)]
            settled = {pair: True for pair in won}
            waiting = [pair for pair in waiting if pair not in settled]
            for rest, at in won:
                for entry in self.entries:
                    self.lengths.setdefault(rest[:at] + (entry,) + rest[at:], rounds)

    def _wins_by(self, rest, at):
        """Tell whether some move with the entry before or behind others leads to known positions alone."""
        for _, pairs in self.choices:
            if all([rest[:at] + (pair,) + rest[at:] in self.lengths for pair in pairs]):
                return True
        return False
