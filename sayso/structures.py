"""Finite ordered structures, and the names of their relations."""

from sayso.errors import BadArgument
from sayso.errors import BadStructure
from sayso.errors import BadText
from sayso.errors import NotFitting
from sayso.integers import is_between
from sayso.integers import is_whole
from sayso.integers import power

LONGEST_NAME = 12
LETTERS = "abcdefghijklmnopqrstuvwxyz"
FIGURES = "0123456789"
RESERVED = ("and", "or", "not", "some", "all", "lfp", "pfp", "tc", "guess", "true", "false")
LARGEST_SIZE = 16
MOST_RELATIONS = 6
LARGEST_ARITY = 6
MOST_ROWS = 4096


def is_name(text):
    """Tell whether a value of any kind is a name."""
    if not isinstance(text, str) or not 1 <= len(text) <= LONGEST_NAME:
        return False
    if text[0] not in LETTERS or text in RESERVED:
        return False
    for sign in text:
        if sign not in LETTERS and sign not in FIGURES:
            return False
    return True


def _kept_row(row, size, arity):
    """Return a tuple of a relation, or raise BadStructure."""
    if not isinstance(row, tuple) or len(row) != arity:
        raise BadStructure("a tuple of a relation is a tuple as long as its arity")
    for element in row:
        if not is_between(element, 0, size - 1):
            raise BadStructure("a tuple of a relation consists of elements")
    return row


def _kept_relation(relation, size):
    """Return a relation with its tuples ascending and single, or raise BadStructure."""
    if not isinstance(relation, tuple) or len(relation) != 3:
        raise BadStructure("a relation is a tuple of a name, an arity and tuples")
    name, arity, rows = relation
    if not is_name(name):
        raise BadStructure("a relation has a name")
    if not is_between(arity, 0, LARGEST_ARITY) or power(size, arity) > MOST_ROWS:
        raise BadStructure("the arity of a relation is out of bounds")
    if not isinstance(rows, (list, tuple)):
        raise BadStructure("the tuples of a relation stand in a list or a tuple")
    kept = [_kept_row(row, size, arity) for row in rows]
    return (name, arity, tuple(sorted(set(kept))))


def _kept_relations(relations, size):
    """Return the relations of a structure of this size, or raise BadStructure."""
    if not isinstance(relations, list) or len(relations) > MOST_RELATIONS:
        raise BadStructure("the relations are a list of at most 6")
    kept = [_kept_relation(relation, size) for relation in relations]
    if len({relation[0] for relation in kept}) != len(kept):
        raise BadStructure("the names of relations differ")
    return kept


class Structure:
    """A size, and a list of relations: tuples (name, arity, ascending tuples)."""

    def __init__(self, size, relations):
        if not is_between(size, 1, LARGEST_SIZE):
            raise BadStructure("the size is an integer from 1 to 16")
        self.size = size
        self.relations = _kept_relations(relations, size)

    def __eq__(self, other):
        return isinstance(other, Structure) and self.size == other.size and self.relations == other.relations

    def has(self, name, row):
        """Tell whether the tuple row is in the relation of this name and as many places."""
        for relation_name, arity, rows in self.relations:
            if relation_name == name and arity == len(row):
                # A row with True in it would be found as one with 1.
                return all([is_whole(element) for element in row]) and row in rows
        raise NotFitting("there is no such relation with this arity")

    def with_relation(self, name, arity, tuples):
        """Return a structure in which this relation replaces the one of its name, or is the last."""
        fresh = (name, arity, tuples)
        relations = [fresh if old[0] == name else old for old in self.relations]
        if name not in [old[0] for old in self.relations]:
            relations.append(fresh)
        return Structure(self.size, relations)

    def renamed(self, permutation):
        """Return the structure in which the element i becomes permutation[i]."""
        if not isinstance(permutation, list) or len(permutation) != self.size:
            raise BadArgument("a permutation is a list of all elements")
        if not all([is_between(element, 0, self.size - 1) for element in permutation]):
            raise BadArgument("a permutation consists of elements")
        if len(set(permutation)) != self.size:
            raise BadArgument("a permutation has each element once")
        relations = []
        for name, arity, rows in self.relations:
            moved = [tuple([permutation[element] for element in row]) for row in rows]
            relations.append((name, arity, moved))
        return Structure(self.size, relations)

    def symbols(self):
        """Return the list of pairs (name, arity), in the order of the relations."""
        return [relation[:2] for relation in self.relations]


def _row_text(row):
    """Return the textual form of a tuple of a relation."""
    if not row:
        return "()"
    return ",".join([str(element) for element in row])


def format_structure(structure):
    """Return the textual form of a structure."""
    pieces = [str(structure.size)]
    for name, arity, rows in structure.relations:
        words = [f"{name}/{arity}"] + [_row_text(row) for row in rows]
        pieces.append(" ".join(words))
    return "; ".join(pieces)


def _read_number(text):
    """Return the number that one or two figures write, or raise BadText."""
    # Every number of a structure is short, and int() would take other signs, too.
    if not 1 <= len(text) <= 2:
        raise BadText("a number of a structure has one or two figures")
    for sign in text:
        if sign not in FIGURES:
            raise BadText("a number consists of figures")
    return int(text)


def _read_row(text):
    """Return the tuple of a relation that a word writes, or raise BadText."""
    if text == "()":
        return ()
    return tuple([_read_number(word) for word in text.split(",")])


def _read_relation(text):
    """Return the relation that a piece of a text writes, or raise BadText."""
    words = text.split(" ")
    name, _, arity = words[0].partition("/")
    return (name, _read_number(arity), [_read_row(word) for word in words[1:]])


def parse_structure(text):
    """Return the structure of a textual form, or raise BadText."""
    if not isinstance(text, str):
        raise BadText("a textual form is a text")
    pieces = text.split("; ")
    size = _read_number(pieces[0])
    relations = [_read_relation(piece) for piece in pieces[1:]]
    try:
        structure = Structure(size, relations)
    except BadStructure:
        raise BadText("the text tells of no structure") from None
    # A structure has one textual form: leading zeros, and tuples twice or out of order, are in no such form.
    if format_structure(structure) != text:
        raise BadText("the text is not the textual form of a structure")
    return structure
