"""Systems made of plain machines, with and without a guess."""

import copy
import random
import unittest

from machining import COUNTER
from machining import REACHES
from machining import WALKS
from machining import made_plain
from machining import made_structure
from machining import rows_of
from machining import told_machine_symbols
from machining import told_run
from samples import told_symbols
from sayso.clocks import system_of_clock
from sayso.errors import BadArgument
from sayso.errors import NotFitting
from sayso.errors import TooLarge
from sayso.fixed import check_system
from sayso.fixed import solve
from sayso.guesses import system_of_guess
from sayso.structures import Structure

NO_NUMBERS = [True, False, None, "1", (1,), 1.0]


def symbols_of(system):
    names = [name for name, _, _ in system]
    return sorted({symbol for _, _, body in system for symbol in told_symbols(body) if symbol[0] not in names})


class TestSystem(unittest.TestCase):
    def made(self, machine, c, name=None):
        """The system of a machine, checked as far as no structure is needed."""
        before = copy.deepcopy(machine)
        found = system_of_clock(machine, c) if name is None else system_of_guess(machine, c, name)
        self.assertEqual(machine, before)
        check_system(found)
        self.assertLessEqual(len(found), machine[2] + 2 * len(machine[1]) + 1)
        self.assertEqual(len(found[-1][1]), 1)
        expected = told_machine_symbols(machine) + ([] if name is None else [(name, machine[1][0])])
        self.assertEqual(symbols_of(found), sorted(expected))
        return found

    def agrees(self, machine, c, structure, name=None, guess=None):
        """The word of the run, as the system says; None if this is too large for `solve`."""
        system = self.made(machine, c, name)
        size = structure.size
        word, steps, _ = told_run(machine, structure, size ** c - 1, guess)
        if name is not None:
            structure = structure.with_relation(name, machine[1][0], list(guess))
        try:
            found = solve(system, structure)
        except TooLarge:
            return None
        expected = [(element,) for element in range(size)] if word == "accepts" else []
        self.assertEqual(found[-1], expected, (machine, c, structure.relations))
        return word, steps

    def test_just_as_many_steps_and_one_more(self):
        # A machine that goes to the accepting state after so many steps, without heads.
        for c, size in [(1, 1), (1, 2), (1, 3), (1, 5), (2, 2), (2, 3), (3, 2)]:
            for steps in [size ** c - 2, size ** c - 1, size ** c]:
                if not 1 <= steps <= 9:
                    continue
                states = [0] + list(range(2, steps + 1)) + [1]
                rules = tuple((one, (), (), other) for one, other in zip(states, states[1:]))
                machine = (0, (), max(states) + 1, rules)
                self.assertEqual(self.agrees(machine, c, Structure(size, [])),
                                 ("accepts", steps) if steps < size ** c else ("goes on", size ** c - 1))

    def test_as_many_steps_as_elements(self):
        for c in [1, 2]:
            for size in [1, 2, 3, 4]:
                whole = Structure(size, [("p", 1, [(element,) for element in range(size)])])
                found = self.agrees(WALKS, c, whole)
                if c == 1:
                    self.assertEqual(found, ("goes on", size - 1))
                elif size < 4:
                    self.assertEqual(found, ("accepts", size) if size > 1 else ("goes on", 0))
                for without in range(size):
                    gap = Structure(size, [("p", 1, [(element,) for element in range(size) if element != without])])
                    self.agrees(WALKS, c, gap)

    def test_counter(self):
        for c, size in [(1, 1), (1, 2), (1, 3), (1, 4), (2, 1), (2, 2), (3, 1), (3, 2)]:
            expected = told_run(COUNTER, Structure(size, []), size ** c - 1)
            self.assertEqual(self.agrees(COUNTER, c, Structure(size, [])), expected[:2])
        self.assertEqual(self.agrees(COUNTER, 3, Structure(2, []))[0], "accepts")

    def test_made_machines(self):
        source = random.Random(91)
        words = {}
        for _ in range(700):
            c, size = source.choice([(1, 1), (1, 2), (1, 3), (1, 3), (1, 4), (2, 1), (2, 2), (2, 2), (3, 1), (3, 2)])
            heads = source.randrange(3)
            tapes = tuple(source.choice([0, 1, 1, 2]) for _ in range(source.choice([0, 0, 1, 1, 2])))
            machine = made_plain(source, heads, tapes, source.randrange(2, 5), source.choice([2, 2, 4]), source.choice([1, 2, 2, 3]))
            structure = made_structure(source, size)
            if c + max((heads,) + tapes) > 4:
                self.made(machine, c)
                continue
            if source.random() < 0.4 and tapes:
                guess = [row for row in rows_of(size, tapes[0]) if source.random() < 0.5]
                found = self.agrees(machine, c, structure, "g", guess)
            else:
                found = self.agrees(machine, c, structure)
            if found is not None:
                words.setdefault((found[0], c), []).append(found[1])
        for c in [1, 2, 3]:
            for word in ["accepts", "stops", "goes on"]:
                self.assertGreater(len(words[word, c]), 10)
        self.assertGreaterEqual(max(words["accepts", 2]), 2)

    def test_tapes_marked_and_unmarked_in_one_step(self):
        structure = Structure(2, [])
        for tapes, place in [((0,), ()), ((1,), (0,)), ((2,), (0, 0))]:
            for flags in rows_of(2, 3):
                writes = tuple(("write", 0, place, bool(flag)) for flag in flags)
                for flag in [True, False]:
                    rules = ((0, (), writes, 2), (2, (("mark", 0, place, flag),), (), 1))
                    machine = (1, tapes, 3, rules)
                    word = "accepts" if bool(flags[-1]) is flag else "stops"
                    self.assertEqual(self.agrees(machine, 2, structure), (word, 2 if word == "accepts" else 1))

    def test_marks_that_stay(self):
        # Marks are made, moved away from and looked for; writing states and others come in turn.
        marks = (0, (), (("write", 0, (0, 1), True), ("up", 0), ("write", 0, (0, 1), True), ("write", 1, (), True)), 2)
        waits = (2, (), (("up", 1), ("write", 1, (), False)), 3)
        for rule, word in [((3, (("mark", 0, (0, 1), True),), (), 1), "stops"), ((3, (("mark", 0, (0, 1), False),), (), 1), "accepts"),
                           ((3, (("mark", 1, (), False),), (), 1), "accepts"), ((3, (("mark", 1, (), True),), (), 1), "stops"),
                           ((3, (("mark", 0, (1, 1), True), ("mark", 1, (), False)), (), 1), "stops")]:
            machine = (2, (2, 0), 4, (marks, waits, rule))
            self.assertEqual(self.agrees(machine, 2, Structure(2, []))[0], word)
        back = (3, (), (("zero", 1),), 4)
        for places, flag, word in [((0, 1), True, "accepts"), ((1, 0), True, "stops"), ((1, 1), True, "accepts"), ((0, 0), False, "accepts")]:
            machine = (2, (2,), 5, (marks[:2] + (marks[2][:3], 2), waits[:2] + (waits[2][:1], 3), back, (4, (("mark", 0, places, flag),), (), 1)))
            found = self.agrees(machine, 3, Structure(2, []))
            self.assertIn(found and found[0], [None, word])

    def test_no_rules_and_rules_that_never_apply(self):
        for machine in [(0, (), 2, ()), (3, (2, 1), 5, ()), (0, (0,), 2, ())]:
            for c in [1, 2, 3]:
                found = self.agrees(machine, c, Structure(2, []))
                self.assertIn(found, [None, ("stops", 0)])
        never = (2, (("rel", "f", (0, 0), True),), (("zero", 0), ("down", 0)), 1)
        machine = WALKS[:2] + (3, WALKS[3] + (never,))
        structure = Structure(2, [("f", 2, [(0, 0)]), ("p", 1, [(0,), (1,)])])
        self.assertEqual(symbols_of(system_of_clock(machine, 1)), [("f", 2), ("p", 1)])
        self.assertEqual(self.agrees(machine, 2, structure), ("accepts", 2))

    def test_names_like_those_of_the_program(self):
        for name in [f"v{at}" for at in range(1, 15)]:
            rules = ((0, (("rel", name, (0,), True), ("last", 0, False)), (("up", 0), ("write", 0, (), True)), 0),
                     (0, (("rel", name, (0,), True), ("last", 0, True), ("mark", 0, (), True)), (), 1))
            machine = (1, (0,), 2, rules)
            self.assertEqual(self.agrees(machine, 2, Structure(2, [(name, 1, [(0,), (1,)])])), ("accepts", 2))
            self.assertEqual(self.agrees(machine, 2, Structure(2, [(name, 1, [(1,)])])), ("stops", 0))
            asks = (1, (1,), 2, ((0, (("mark", 0, (0,), True), ("rel", "v1x", (0,), True)), (), 1),))
            structure = Structure(2, [("v1x", 1, [(0,)])])
            self.assertEqual(self.agrees(asks, 1, structure, name, [(0,)]), ("accepts", 1))
            self.assertEqual(self.agrees(asks, 1, structure, name, [(1,)]), ("stops", 0))

    def test_fitting(self):
        self.assertRaises(NotFitting, solve, system_of_clock(WALKS, 1), Structure(2, []))

    def test_within_the_told_numbers(self):
        source = random.Random(92)
        for _ in range(60):
            heads = source.choice([1, 2, 4])
            tapes = tuple(source.choice([0, 1, 4]) for _ in range(source.randrange(4)))
            states = 23 - 2 * len(tapes)
            kinds = [("last", heads - 1), ("rel", "e", (0,) * 6)] + [("mark", at, (0,) * arity) for at, arity in enumerate(tapes)]
            rules = []
            for state in source.sample([0] + list(range(2, states)), 3):
                first, second = source.choice(kinds), source.choice(kinds)
                for flags in rows_of(2, 2):
                    actions = [("write", at, (0,) * arity, True) for at, arity in enumerate(tapes)] + [("up", 0), ("down", heads - 1)]
                    conditions = (first + (bool(flags[0]),), second + (bool(flags[1]),))
                    rules.append((state, conditions, tuple(source.choice(actions) for _ in range(2)), source.randrange(states)))
            machine = (heads, tapes, states, tuple(rules))
            for c in [1, 2]:
                self.made(machine, c)


class TestErrors(unittest.TestCase):
    def test_bad_arguments(self):
        for machine, c in [(REACHES, 1), (REACHES, 9), (WALKS, 0), (WALKS, 4), (WALKS, -1)] + [(WALKS, c) for c in NO_NUMBERS]:
            self.assertRaises(BadArgument, system_of_clock, machine, c)
        # A machine for which another exponent would be too large.
        self.assertRaises(BadArgument, system_of_clock, (12, (), 4000, ()), 0)

    def test_bad_arguments_with_a_guess(self):
        for machine in [REACHES, WALKS, (0, (), 2, ())]:
            self.assertRaises(BadArgument, system_of_guess, machine, 1, "g")
        for c in [0, 4] + NO_NUMBERS:
            self.assertRaises(BadArgument, system_of_guess, COUNTER, c, "g")
        machine = COUNTER[:2] + (4, COUNTER[3] + ((3, (("rel", "f", (), True),), (), 1),))
        for name in ["", "G", "and", "tc", "1g", None, 1, True, ("g",), "a234567890123", "f"]:
            self.assertRaises(BadArgument, system_of_guess, machine, 1, name)
        self.assertEqual(symbols_of(system_of_guess(machine, 1, "g")), [("f", 0), ("g", 1)])
        self.assertRaises(BadArgument, system_of_guess, (12, (1,), 4000, ()), 1, "G")

    def test_too_large(self):
        for heads, tapes, states, c, large in [
                (0, (), 23, 1, False), (0, (), 24, 1, True), (0, (0,), 21, 1, False), (0, (0,), 22, 1, True),
                (0, (0,) * 6, 11, 3, False), (0, (0,) * 6, 12, 3, True), (5, (), 2, 1, False), (6, (), 2, 1, True), (4, (), 2, 2, False),
                (5, (), 2, 2, True), (3, (), 2, 3, False), (4, (), 2, 3, True), (1, (5,), 2, 1, False), (1, (6,), 2, 1, True),
                (1, (1, 4), 2, 2, False), (1, (1, 5), 2, 2, True), (1, (3,), 2, 3, False), (1, (4,), 2, 3, True), (12, (), 4000, 1, True)]:
            machine = (heads, tapes, states, ())
            with self.subTest(machine=machine, c=c):
                if large:
                    self.assertRaises(TooLarge, system_of_clock, machine, c)
                else:
                    check_system(system_of_clock(machine, c))
                if tapes and large:
                    self.assertRaises(TooLarge, system_of_guess, machine, c, "g")
                elif tapes:
                    check_system(system_of_guess(machine, c, "g"))

    def test_beyond_a_bound(self):
        names = [f"r{at}" for at in range(11)]
        rules = []
        for number in range(2 ** 11):
            conditions = tuple(("rel", name, (), bool(number >> at & 1)) for at, name in enumerate(names))
            rules.append((0, conditions, (), 1))
        self.assertRaises(TooLarge, system_of_clock, (0, (), 2, tuple(rules)), 1)
        check_system(system_of_clock((0, (), 2, tuple(rules[:60])), 1))


if __name__ == "__main__":
    unittest.main()
