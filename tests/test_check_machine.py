"""What is a machine, and the symbols of machines."""

import random
import unittest

from machining import COUNTER
from machining import REACHES
from machining import WALKS
from machining import made_machine
from machining import made_plain
from machining import made_structure
from machining import told_machine_symbols
from sayso import clocks
from sayso import guesses
from sayso import heads
from sayso import machines
from sayso import room
from sayso.errors import BadMachine
from sayso.machines import check_machine
from sayso.machines import is_plain
from sayso.machines import machine_symbols
from sayso.structures import Structure

EMPTY = (0, (), 2, ())
NO_NUMBERS = [None, True, False, "1", "", 1.0, (1,), [1]]


def with_condition(condition, heads=2, tapes=(1, 0)):
    return (heads, tapes, 3, ((0, (condition,), (), 1),))


def with_action(action, heads=2, tapes=(1, 0)):
    return (heads, tapes, 3, ((0, (), (action,), 1),))


class TestCheck(unittest.TestCase):
    def good(self, machine):
        with self.subTest(machine):
            self.assertIsNone(check_machine(machine))

    def bad(self, machine):
        with self.subTest(machine):
            self.assertRaises(BadMachine, check_machine, machine)
            self.assertIs(is_plain(machine), False)

    def test_made_machines(self):
        source = random.Random(1)
        for _ in range(200):
            tapes = tuple(source.randrange(7) for _ in range(source.randrange(7)))
            heads, states = source.randrange(13), source.randrange(2, 30)
            self.good(made_machine(source, heads, tapes, states, source.randrange(20), 12, 12))
            self.good(made_plain(source, heads, tapes, states))

    def test_kinds(self):
        for value in [None, True, 0, 1, "machine", (), [], {}, [0, (), 2, ()], (0, (), 2), (0, (), 2, (), ()), EMPTY[:3] + (None,)]:
            self.bad(value)
        self.good(EMPTY)

    def test_heads(self):
        for heads in [0, 1, 12]:
            self.good((heads, (), 2, ()))
        for heads in [-1, 13] + NO_NUMBERS:
            self.bad((heads, (), 2, ()))

    def test_tapes(self):
        for tapes in [(), (0,), (6,), (0, 1, 2, 3, 4, 5), (6,) * 6]:
            self.good((0, tapes, 2, ()))
        for tapes in [None, 0, [], [1], {}, "1", (7,), (-1,), (1, 7), (0,) * 7] + [(1, number) for number in NO_NUMBERS]:
            self.bad((0, tapes, 2, ()))

    def test_states(self):
        for states in [2, 3, 4000]:
            self.good((0, (), states, ()))
        for states in [1, 0, -2, 4001] + NO_NUMBERS:
            self.bad((0, (), states, ()))

    def test_rules(self):
        rule = (0, (), (), 1)
        self.good((0, (), 2, (rule,) * 12000))
        for rules in [None, [], [rule], {}, "", rule, (rule,) * 12001]:
            self.bad((0, (), 2, rules))
        for wrong in [None, (), [0, (), (), 1], (0, (), ()), (0, (), (), 1, 1), "rule", 5]:
            self.bad((0, (), 2, (rule, wrong)))

    def test_states_of_rules(self):
        for state in [0, 2]:
            for goal in [0, 1, 2]:
                self.good((0, (), 3, ((state, (), (), goal),)))
        for state in [1, 3, -1] + NO_NUMBERS:
            self.bad((0, (), 3, ((state, (), (), 1),)))
        for goal in [3, -1] + NO_NUMBERS:
            self.bad((0, (), 3, ((0, (), (), goal),)))

    def test_numbers_of_conditions_and_actions(self):
        condition, action = ("last", 0, True), ("zero", 0)
        self.good((1, (), 2, ((0, (condition,) * 12, (action,) * 12, 1),)))
        self.bad((1, (), 2, ((0, (condition,) * 13, (), 1),)))
        self.bad((1, (), 2, ((0, (), (action,) * 13, 1),)))
        for wrong in [None, [], [condition], {}, condition, "", 0]:
            self.bad((1, (), 2, ((0, wrong, (), 1),)))
        for wrong in [None, [], [action], {}, action, "", 0]:
            self.bad((1, (), 2, ((0, (), wrong, 1),)))

    def test_conditions(self):
        for condition in [("rel", "e", (), True), ("rel", "e", (0, 1, 0, 1, 1, 1), False), ("rel", "a23456789012", (1,), True),
                          ("eq", 0, 0, True), ("less", 1, 0, False), ("last", 1, False), ("mark", 0, (1,), True),
                          ("mark", 1, (), False)]:
            self.good(with_condition(condition))
            self.bad(with_condition(condition + (True,)))
            self.bad(with_condition(condition[:-1]))
            self.bad(with_condition(list(condition)))
            self.bad(with_condition(("more",) + condition[1:]))
            self.bad(with_condition((None,) + condition[1:]))
            for flag in [0, 1, None, "True", (), [True]]:
                self.bad(with_condition(condition[:-1] + (flag,)))

    def test_what_is_no_condition_and_no_action(self):
        for value in [(), ((),), ([],), (None,), ({},), (1, 2, 3), None, 0, True, "last", [], {}, (("last", 0, True),), ("last",)]:
            self.bad(with_condition(value))
            self.bad(with_action(value))

    def test_heads_of_conditions(self):
        for head in [2, -1, 12] + NO_NUMBERS:
            for condition in [("eq", head, 0, True), ("eq", 0, head, True), ("less", head, 0, True), ("less", 0, head, True),
                              ("last", head, True), ("rel", "e", (0, head), True), ("mark", 0, (head,), True)]:
                self.bad(with_condition(condition))
        self.bad(with_condition(("last", 0, True), heads=0))
        self.good(with_condition(("last", 11, True), heads=12))

    def test_names_and_places_of_conditions(self):
        for name in ["", "E", "1e", "and", "tc", "a234567890123", None, 1, ("e",), "e_", "true"]:
            self.bad(with_condition(("rel", name, (0,), True)))
        for places in [None, 0, [0], "", (0,) * 7, {0: 1}]:
            self.bad(with_condition(("rel", "e", places, True)))

    def test_tapes_of_conditions_and_actions(self):
        for tape in [2, -1] + NO_NUMBERS:
            self.bad(with_condition(("mark", tape, (0,), True)))
            self.bad(with_condition(("mark", tape, (), True)))
            self.bad(with_action(("write", tape, (0,), True)))
        for tape, places in [(0, ()), (0, (0, 0)), (1, (0,)), (0, [0]), (0, 0), (0, None), (1, None), (1, [])]:
            self.bad(with_condition(("mark", tape, places, True)))
            self.bad(with_action(("write", tape, places, True)))
        self.bad(with_condition(("mark", 0, (0,), True), tapes=()))
        self.bad(with_action(("write", 0, (0,), True), tapes=()))

    def test_actions(self):
        for action in [("up", 1), ("down", 0), ("zero", 1), ("copy", 0, 1), ("copy", 1, 1), ("write", 0, (1,), True),
                       ("write", 1, (), False)]:
            self.good(with_action(action))
            self.bad(with_action(action + (0,)))
            self.bad(with_action(action[:-1]))
            self.bad(with_action(list(action)))
            self.bad(with_action(("more",) + action[1:]))
            self.bad(with_action((0,) + action[1:]))
        for head in [2, -1] + NO_NUMBERS:
            for action in [("up", head), ("down", head), ("zero", head), ("copy", head, 0), ("copy", 0, head),
                           ("write", 0, (head,), True)]:
                self.bad(with_action(action))
        for flag in [0, 1, None, "False"]:
            self.bad(with_action(("write", 0, (0,), flag)))
        self.bad(with_action(("eq", 0, 0, True)))
        self.bad(with_condition(("up", 0)))

    def test_one_arity_for_each_name(self):
        first, second = ("rel", "e", (0,), True), ("rel", "e", (0, 0), True)
        self.bad((1, (), 2, ((0, (first, second), (), 1),)))
        self.bad((1, (), 3, ((0, (first,), (), 1), (2, (second,), (), 1))))
        self.good((1, (), 3, ((0, (first,), (), 1), (2, (first[:3] + (False,),), (), 1))))
        # Tapes are numbered, so that a name is never that of one.
        self.good((1, (1,), 2, ((0, (first, ("mark", 0, (0,), True)), (), 1),)))

    def test_symbols(self):
        self.assertEqual(machine_symbols(REACHES), [("e", 2)])
        self.assertEqual(machine_symbols(WALKS), [("p", 1)])
        self.assertEqual(machine_symbols(COUNTER), [])
        source = random.Random(2)
        for _ in range(100):
            machine = made_machine(source, source.randrange(4), (1, 0), 4, source.randrange(10))
            self.assertEqual(machine_symbols(machine), told_machine_symbols(machine))
            self.assertIsNot(machine_symbols(machine), machine_symbols(machine))

    def test_bad_machine_comes_first(self):
        structure = Structure(2, [])
        for machine in [None, 5, [], (0, (), 1, ()), (1, (), 2, ((1, (), (), 1),)), (0, [], 2, ())]:
            for function, rest in [
                    (machine_symbols, ()), (machines.first_configuration, ()),
                    (machines.next_configurations, (structure, None)), (machines.run, (structure, -1)),
                    (heads.accepts, (structure,)), (heads.path, (structure,)), (heads.refusal, (structure,)),
                    (heads.is_refusal, (structure, [])), (heads.sentence_of_heads, ()), (clocks.system_of_clock, (9,)),
                    (guesses.accepts_some, (structure, True)), (guesses.system_of_guess, (None, "E")),
                    (room.sentence_of_room, ())]:
                with self.subTest(machine=machine, function=function.__name__):
                    self.assertRaises(BadMachine, function, machine, *rest)


class TestPlain(unittest.TestCase):
    def test_flags(self):
        for condition in [("rel", "e", (0, 1)), ("rel", "q", ()), ("eq", 0, 1), ("less", 1, 0), ("last", 1), ("mark", 0, (1,)),
                          ("mark", 1, ())]:
            for more in [(), (("eq", 0, 0, True),)]:
                rules = ((0, more + (condition + (True,),), (), 1), (0, (condition + (False,),) + more, (), 0))
                self.assertIs(is_plain((2, (1, 0), 2, rules)), True)
                same = (rules[0], (0, (condition + (True,),), (), 0))
                self.assertIs(is_plain((2, (1, 0), 2, same)), False)
                self.assertIs(is_plain((2, (1, 0), 2, rules + ((0, more, (), 0),))), False)

    def test_other_conditions(self):
        for first, second in [(("eq", 0, 1), ("eq", 1, 0)), (("less", 0, 1), ("less", 1, 0)), (("last", 0), ("last", 1)),
                              (("rel", "e", (0, 1)), ("rel", "e", (1, 0))), (("rel", "e", (0,)), ("rel", "f", (0,))),
                              (("mark", 0, (0,)), ("mark", 1, (0,))), (("mark", 0, (0,)), ("rel", "e", (0,))),
                              (("eq", 0, 1), ("less", 0, 1))]:
            rules = ((0, (first + (True,),), (), 1), (0, (second + (False,),), (), 0))
            self.assertIs(is_plain((2, (1, 1), 2, rules)), False)

    def test_states(self):
        rule = (0, (), (), 1)
        self.assertIs(is_plain((0, (), 3, (rule, (2, (), (), 1)))), True)
        self.assertIs(is_plain((0, (), 3, (rule, rule))), False)
        self.assertIs(is_plain((0, (), 3, ((2, (), (), 1), rule, (2, (), (), 0)))), False)
        self.assertIs(is_plain((0, (), 2, ())), True)

    def test_known_machines(self):
        self.assertIs(is_plain(COUNTER), True)
        self.assertIs(is_plain(WALKS), True)
        self.assertIs(is_plain(REACHES), False)

    def test_against_each_pair(self):
        source = random.Random(3)
        seen = []
        for _ in range(400):
            machine = made_machine(source, 1, (0,), 3, source.randrange(6), 3)
            if source.random() < 0.5:
                machine = made_plain(source, 2, (1,), 4, 2, 3)
            pairs = [(one, other) for at, one in enumerate(machine[3]) for other in machine[3][at + 1:] if one[0] == other[0]]
            expected = all(any(first[:-1] == second[:-1] and first[-1] is not second[-1]
                               for first in one[1] for second in other[1]) for one, other in pairs)
            self.assertIs(is_plain(machine), expected)
            seen.append(expected and bool(pairs))
        self.assertGreater(sum(seen), 50)
        self.assertLess(sum(seen), 350)

    def test_many_rules_of_one_state(self):
        # Ten conditions tell 1024 rules apart.
        conditions = [("rel", f"r{k}", ()) for k in range(10)]
        rules = [(0, tuple(one + (bool(at >> k & 1),) for k, one in enumerate(conditions)), (), 1) for at in range(1024)]
        self.assertIs(is_plain((0, (), 2, tuple(rules))), True)
        self.assertIs(is_plain((0, (), 2, tuple(rules + rules[-1:]))), False)

    def test_anything(self):
        for value in [None, True, 3, "plain", [], (), {}, made_structure(random.Random(1), 2), (0, (), 2, [])]:
            self.assertIs(is_plain(value), False)


if __name__ == "__main__":
    unittest.main()
