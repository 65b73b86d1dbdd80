"""Games with pebbles, reckoned from the words of the document, and pairs of structures for them."""

from itertools import product

from machining import made_structure
from machining import rows_of
from sayso.structures import Structure


def told_sound(first, second, position):
    pairs = [entry for entry in position if entry is not None]
    for one, other in product(pairs, repeat=2):
        if (one[0] == other[0]) != (one[1] == other[1]):
            return False
    for name, arity in first.symbols():
        for chosen in product(pairs, repeat=arity):
            if first.has(name, tuple(a for a, _ in chosen)) != second.has(name, tuple(b for _, b in chosen)):
                return False
    return True


def told_positions(first, second, k):
    entries = [None] + [(a, b) for a in range(first.size) for b in range(second.size)]
    return list(product(entries, repeat=k))


def told_choices(first, second, position):
    """For each entry and element that may be chosen, the positions that the answers lead to."""
    for at in range(len(position)):
        for a in range(first.size):
            yield [position[:at] + ((a, b),) + position[at + 1:] for b in range(second.size)]
        for b in range(second.size):
            yield [position[:at] + ((a, b),) + position[at + 1:] for a in range(first.size)]


def told_lengths(first, second, k):
    """The lengths of all positions, None for those from which the other player can go on for ever."""
    positions = told_positions(first, second, k)
    lengths = {position: None if told_sound(first, second, position) else 0 for position in positions}
    rounds = 0
    while rounds in lengths.values():
        rounds += 1
        won = [position for position in positions if lengths[position] is None and any(
            all(lengths[after] is not None for after in reached) for reached in told_choices(first, second, position))]
        for position in won:
            lengths[position] = rounds
    return lengths


def told_keeping(first, second, k, table):
    """Whether a list of positions is a keeping table."""
    return ((None,) * k in table and all(told_sound(first, second, position) for position in table)
            and all(any(after in table for after in reached) for position in table
                    for reached in told_choices(first, second, position)))


def many_pairs(source, count, largest=3, symbols=(("e", 2), ("p", 1), ("q", 0))):
    """Pairs of comparable structures, some of them nearly the same."""
    for _ in range(count):
        chosen = source.sample(symbols, source.randrange(len(symbols) + 1))
        first = made_structure(source, source.randrange(1, largest + 1), chosen)
        if source.random() < 0.5:
            second = made_structure(source, source.randrange(1, largest + 1), source.sample(chosen, len(chosen)))
        else:
            second = first.renamed(source.sample(range(first.size), first.size))
            if chosen and source.random() < 0.7:
                name, arity = source.choice(chosen)
                row = source.choice(rows_of(first.size, arity))
                rows = set(dict((r[0], r[2]) for r in second.relations)[name]) ^ {row}
                second = second.with_relation(name, arity, list(rows))
        yield first, second


def cycle(count):
    return Structure(count, [("e", 2, [(k, (k + 1) % count) for k in range(count)])])


def line(count):
    return Structure(count, [("e", 2, [(k, k + 1) for k in range(count - 1)])])
