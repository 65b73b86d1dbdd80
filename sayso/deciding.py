"""Parts of plain machines that find out whether a formula holds."""

from sayso.building import heads_of
from sayso.building import with_heads
from sayso.shapes import arguments
from sayso.shapes import inner
from sayso.shapes import own


class Decision:
    """A part of a plain machine that goes from an entry to one of two states, as a formula holds or not.

    The entry has no other rules. Variables have heads, and bound names have tapes, on which their relations stand.
    """

    def __init__(self, builder, known, entry, yes, no):
        self.builder = builder
        self.head_of = known[0]
        self.tape_of = known[1]
        self.entry = entry
        self.yes = yes
        self.no = no

    def between(self, entry, yes, no):
        """Return a decision like this between other states."""
        return Decision(self.builder, (self.head_of, self.tape_of), entry, yes, no)

    def with_own(self, variables, heads):
        """Return a decision like this in which variables have these heads."""
        known = (with_heads(self.head_of, variables, heads), self.tape_of)
        return Decision(self.builder, known, self.entry, self.yes, self.no)

    def with_tape(self, name, tape):
        """Return a decision like this in which the relation of a name stands on a tape."""
        found = dict(self.tape_of)
        found[name] = tape
        return Decision(self.builder, (self.head_of, found), self.entry, self.yes, self.no)


def _add_atom(formula, way):
    heads = heads_of(way.head_of, arguments(formula))
    if formula[0] != "rel":
        told = (formula[0],) + heads
    elif formula[1] in way.tape_of:
        told = ("mark", way.tape_of[formula[1]], heads)
    else:
        told = ("rel", formula[1], heads)
    way.builder.add_branch(way.entry, told, way.yes, way.no)


def _add_not(formula, way):
    add_decision(formula[1], way.between(way.entry, way.no, way.yes))


def _add_and(formula, way):
    _add_joined(inner(formula), way, True)


def _add_or(formula, way):
    _add_joined(inner(formula), way, False)


def _add_joined(parts, way, undecided):
    """Add the decisions for parts, one after the other; undecided tells whether it is those that hold or the others
    behind which the next part is looked at.
    """
    if not parts:
        way.builder.add_rule(way.entry, [], [], way.yes if undecided else way.no)
        return
    entry = way.entry
    for part in parts[:-1]:
        after = way.builder.fresh_state()
        goals = (after, way.no) if undecided else (way.yes, after)
        add_decision(part, way.between(entry, goals[0], goals[1]))
        entry = after
    add_decision(parts[-1], way.between(entry, way.yes, way.no))


def _add_some(formula, way):
    tried = way.builder.fresh_state()
    _add_tried(formula, way, tried, (way.yes, tried), way.no)


def _add_all(formula, way):
    tried = way.builder.fresh_state()
    _add_tried(formula, way, tried, (tried, way.no), way.yes)


def _add_tried(formula, way, tried, goals, undecided):
    """Add the rules that try one tuple of elements after the other, and where they go if none of them decides.

    The goals of the formula within are two states, one of them that in which a tuple has been tried.
    """
    builder = way.builder
    heads = builder.fresh_heads(len(own(formula)))
    trying = builder.fresh_state()
    builder.add_rule(way.entry, [], [("zero", head) for head in heads], trying)
    add_decision(formula[2], way.with_own(own(formula), heads).between(trying, goals[0], goals[1]))
    builder.add_advance(tried, [], [], heads, (trying, undecided))


def _add_fixed_point(formula, way):
    """Add the rules that mark the least fixed point on a tape, and look whether it contains the arguments.

    A tuple is marked as soon as the formula holds for it with what is marked so far, which leads to the same fixed
    point as the stages. The tuples come one after the other, and the first one again behind the last one. The search
    is at an end when it comes back to the tuple that was marked last: then nothing has changed since all were tried.
    """
    builder = way.builder
    tape = builder.fresh_tape(len(own(formula)))
    heads = builder.fresh_heads(len(own(formula)))
    newest = builder.fresh_heads(len(own(formula)))
    clearing, looking, trying, found, advancing, coming = [builder.fresh_state() for _ in range(6)]
    cell = tuple(heads)
    builder.add_rule(way.entry, [], [("zero", head) for head in heads + newest], clearing)
    builder.add_advance(clearing, [], [("write", tape, cell, False)], heads, (clearing, looking))
    builder.add_branch(looking, ("mark", tape, cell), advancing, trying)
    within = way.with_own(own(formula), heads).with_tape(formula[1], tape)
    add_decision(formula[3], within.between(trying, found, advancing))
    copies = [("copy", last, head) for last, head in zip(newest, heads)]
    builder.add_rule(found, [], [("write", tape, cell, True)] + copies, advancing)
    builder.add_advance(advancing, [], [], heads, (coming, coming))
    same = []
    for head, last in zip(heads, newest):
        builder.add_rule(coming, same + [("eq", head, last, False)], [], looking)
        same.append(("eq", head, last, True))
    asked = ("mark", tape, heads_of(way.head_of, arguments(formula)))
    builder.add_rule(coming, same + [asked + (True,)], [], way.yes)
    builder.add_rule(coming, same + [asked + (False,)], [], way.no)


MAKERS = {
    "rel": _add_atom, "eq": _add_atom, "less": _add_atom, "not": _add_not, "and": _add_and, "or": _add_or,
    "some": _add_some, "all": _add_all, "lfp": _add_fixed_point,
}


def add_decision(formula, way):
    """Add the rules of a decision for a formula without tc, pfp and guess."""
    make = MAKERS[formula[0]]
    make(formula, way)
