"""Parts of machines that reach a state exactly if a formula holds, by guesses of elements and of ways."""

from sayso.building import heads_of
from sayso.building import with_heads
from sayso.forms import TURNED
from sayso.shapes import arguments
from sayso.shapes import inner
from sayso.shapes import own


class Way:
    """A part of a machine between two states: it may lead from the entry to the goal exactly if a formula holds.

    If denied, then exactly if the formula does not hold. No rule of another way leads to the entry or from it, except
    where one way begins with others: those that it may go. So no way leads back to its entry.
    """

    def __init__(self, builder, head_of, denied, entry, goal):
        self.builder = builder
        self.head_of = head_of
        self.denied = denied
        self.entry = entry
        self.goal = goal

    def between(self, entry, goal):
        """Return a way like this between other states."""
        return Way(self.builder, self.head_of, self.denied, entry, goal)

    def with_own(self, variables, heads):
        """Return a way like this on which variables have these heads."""
        return Way(self.builder, with_heads(self.head_of, variables, heads), self.denied, self.entry, self.goal)

    def turned(self):
        """Return the way that leads to the goal exactly if the other one does not hold."""
        return Way(self.builder, self.head_of, not self.denied, self.entry, self.goal)


def _add_atom(formula, way):
    heads = heads_of(way.head_of, arguments(formula))
    told = ("rel", formula[1], heads) if formula[0] == "rel" else (formula[0],) + heads
    way.builder.add_rule(way.entry, [told + (not way.denied,)], [], way.goal)


def _add_not(formula, way):
    add_way(formula[1], way.turned())


def _add_and(formula, way):
    if not inner(formula):
        way.builder.add_rule(way.entry, [], [], way.goal)
        return
    entry = way.entry
    for part in inner(formula)[:-1]:
        after = way.builder.fresh_state()
        add_way(part, way.between(entry, after))
        entry = after
    add_way(inner(formula)[-1], way.between(entry, way.goal))


def _add_or(formula, way):
    for part in inner(formula):
        add_way(part, way)


def _add_guess(builder, state, heads):
    """Add the rules that move heads, which stand on 0, to any elements while the state stays."""
    for head in heads:
        builder.add_rule(state, [], [("up", head)], state)


def _add_some(formula, way):
    builder = way.builder
    heads = builder.fresh_heads(len(own(formula)))
    guessing = builder.fresh_state()
    builder.add_rule(way.entry, [], [("zero", head) for head in heads], guessing)
    _add_guess(builder, guessing, heads)
    add_way(formula[2], way.with_own(own(formula), heads).between(guessing, way.goal))


def _add_all(formula, way):
    builder = way.builder
    heads = builder.fresh_heads(len(own(formula)))
    trying = builder.fresh_state()
    tried = builder.fresh_state()
    builder.add_rule(way.entry, [], [("zero", head) for head in heads], trying)
    add_way(formula[2], way.with_own(own(formula), heads).between(trying, tried))
    builder.add_advance(tried, [], [], heads, (trying, way.goal))


def _add_closure(formula, way):
    builder = way.builder
    half = len(own(formula)) // 2
    passed = heads_of(way.head_of, arguments(formula))
    heads = builder.fresh_heads(2 * half)
    here = heads[:half]
    there = heads[half:]
    arrived = builder.fresh_state()
    guessing = builder.fresh_state()
    led = builder.fresh_state()
    builder.add_rule(way.entry, [], _copies(here, passed[:half]), arrived)
    ends = [("eq", head, end, True) for head, end in zip(here, passed[half:])]
    builder.add_rule(arrived, ends, [], way.goal)
    builder.add_rule(arrived, [], [("zero", head) for head in there], guessing)
    _add_guess(builder, guessing, there)
    add_way(formula[2], way.with_own(own(formula), heads).between(guessing, led))
    builder.add_rule(led, [], _copies(here, there), arrived)


def _copies(heads, others):
    """Return the list of actions that move heads to the elements of others."""
    return [("copy", head, other) for head, other in zip(heads, others)]


MAKERS = {
    "rel": _add_atom, "eq": _add_atom, "less": _add_atom, "not": _add_not, "and": _add_and, "or": _add_or,
    "some": _add_some, "all": _add_all, "tc": _add_closure,
}


def add_way(formula, way):
    """Add the rules of a way for a formula without lfp, pfp and guess, in which no tc is denied."""
    word = formula[0]
    make = MAKERS[TURNED.get(word, word) if way.denied else word]
    make(formula, way)
