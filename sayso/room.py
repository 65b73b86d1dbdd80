"""Machines that are bounded by their room alone, and sentences with pfp."""

from sayso.building import Builder
from sayso.building import heads_of
from sayso.building import with_heads
from sayso.counts import count_of_bound
from sayso.deciding import Decision
from sayso.deciding import add_decision
from sayso.errors import BadArgument
from sayso.errors import TooLarge
from sayso.formulas import check_formula
from sayso.formulas import free
from sayso.formulas import is_first_order
from sayso.formulas import parts
from sayso.formulas import within_bounds
from sayso.machines import MOST_HEADS
from sayso.machines import MOST_STATES
from sayso.machines import check_plain
from sayso.motion import ACCEPTING
from sayso.rooming import room_sentence


def sentence_of_room(machine):
    """Return a sentence with one pfp that holds in structures of two elements and more that the run accepts."""
    check_plain(machine)
    return within_bounds(room_sentence(machine))


def _check_roomy(sentence):
    """Raise BadFormula for what is no formula, and BadArgument for one that is not a pfp within a some as needed."""
    check_formula(sentence)
    if sentence[0] != "some" or sentence[2][0] != "pfp":
        raise BadArgument("the sentence is not a some with a pfp in it")
    _, _, own, body, passed = sentence[2]
    if not is_first_order(body):
        raise BadArgument("the formula within the pfp is not first-order")
    if not all([variable in own for variable in free(body)]):
        raise BadArgument("the formula within the pfp has another free variable")
    if not all([variable in sentence[1] for variable in passed]):
        raise BadArgument("an argument of the pfp is none of the variables of the some")


def room_of_sentence(sentence):
    """Return a plain machine that accepts the structures in which a sentence with a pfp holds."""
    _check_roomy(sentence)
    bound = count_of_bound(sentence, ("some", "all", "pfp"))
    if bound > MOST_HEADS or 20 * (parts(sentence) + bound) + 40 > MOST_STATES:
        raise TooLarge("the sentence has too many variables or parts")
    return _stages_machine(sentence[1], sentence[2])


def _stages_machine(variables, fixed):
    """Return the machine that goes from stage to stage of a pfp, until one equals the next one.

    One tape has a stage, and the other one the next stage. All heads are on 0 when they begin to go through all tuples,
    and so they are afterwards.
    """
    _, name, own, body, passed = fixed
    builder = Builder()
    stage = builder.fresh_tape(len(own))
    following = builder.fresh_tape(len(own))
    heads = builder.fresh_heads(len(own))
    asked = builder.fresh_heads(len(variables))
    holding, failing, comparing, copying, settled, stopping = [builder.fresh_state() for _ in range(6)]
    old = ("mark", stage, tuple(heads))
    new = ("mark", following, tuple(heads))
    known = (with_heads({}, own, heads), {name: stage})
    add_decision(body, Decision(builder, known, 0, holding, failing))
    builder.add_advance(holding, [], [("write", following, tuple(heads), True)], heads, (0, comparing))
    builder.add_advance(failing, [], [("write", following, tuple(heads), False)], heads, (0, comparing))
    for flag in (True, False):
        builder.add_advance(comparing, [old + (flag,), new + (flag,)], [], heads, (comparing, settled))
        builder.add_rule(comparing, [old + (flag,), new + (not flag,)], [], copying)
        # What stands before the first difference need not be copied.
        copied = [("write", stage, tuple(heads), flag)]
        builder.add_advance(copying, [new + (flag,)], copied, heads, (copying, 0))
    told = ("mark", stage, heads_of(with_heads({}, variables, asked), passed))
    builder.add_rule(settled, [told + (True,)], [], ACCEPTING)
    builder.add_advance(settled, [told + (False,)], [], asked, (settled, stopping))
    return builder.built()
