"""Sentences and the machines that are made of them, machines and the sentences and systems that are made of them."""

import random
import unittest

from fitting import made_structure
from machining import made_plain
from machining import told_run
from sayso.clocks import clock_of_sentence
from sayso.clocks import system_of_clock
from sayso.errors import TooLarge
from sayso.fixed import one_formula
from sayso.fixed import solve
from sayso.formulas import parse_formula
from sayso.guesses import accepts_some
from sayso.guesses import machine_of_guess
from sayso.guesses import system_of_guess
from sayso.heads import accepts
from sayso.heads import heads_of_sentence
from sayso.heads import refusal
from sayso.heads import sentence_of_heads
from sayso.machines import run
from sayso.meaning import cost
from sayso.meaning import holds
from sayso.meaning import query
from sayso.room import room_of_sentence
from sayso.room import sentence_of_room
from sayso.structures import Structure
from second import relations_of
from second import told
from sentences import many_sentences

import machining


class TestSentences(unittest.TestCase):
    def test_all_ways_for_first_order_sentences(self):
        source = random.Random(131)
        answers = []
        for sentence in many_sentences(source, 150, [], 5):
            structure = made_structure(source, source.choice([1, 2, 3]))
            expected = told(sentence, structure.size, {}, relations_of(structure))
            answers.append(expected)
            self.assertIs(holds(sentence, structure, {}), expected)
            self.assertEqual(run(clock_of_sentence(sentence), structure, 200000)[0], "accepts" if expected else "stops")
            guessing = machine_of_guess(("guess", "g", 0, sentence))
            self.assertEqual(accepts_some(guessing, structure, 200000), [] if expected else None)
            room = room_of_sentence(("some", ("x",), ("pfp", "r", ("y",), sentence, ("x",))))
            self.assertEqual(run(room, structure, 200000)[0], "accepts" if expected else "stops")
            machine = heads_of_sentence(sentence)
            if machine[2] * structure.size ** machine[0] <= 20000:
                self.assertIs(accepts(machine, structure), expected)
            if machine[2] * structure.size ** machine[0] <= 2000:
                self.assertIs(refusal(machine, structure) is None, expected)
        self.assertGreater(min(answers.count(True), answers.count(False)), 40)

    def test_a_system_of_the_machine_of_a_sentence(self):
        # For so small a sentence the system of its machine can be solved.
        for text in ["q()", "not(q())", "or(q(), not(q()))", "and(q(), not(q()))", "true", "false"]:
            machine = clock_of_sentence(parse_formula(text))
            for rows in [[], [()]]:
                structure = Structure(4, [("q", 0, rows)])
                expected = holds(parse_formula(text), structure, {})
                system = system_of_clock(machine, 1)
                self.assertEqual(solve(system, structure)[-1] != [], expected)

    def test_a_system_of_the_machine_of_a_guess(self):
        machine = machine_of_guess(parse_formula("guess(g 1: some(x: g(x)))"))
        for c, rows, accepted in [(2, [(0,)], True), (2, [(1,)], True), (2, [], False)]:
            structure = Structure(2, [("h", 1, rows)])
            steps = told_run(machine, Structure(2, []), 100, rows)[1]
            try:
                found = solve(system_of_guess(machine, c, "h"), structure)[-1]
            except TooLarge:
                continue
            self.assertEqual(found != [], accepted and steps < 2 ** c)


class TestMachines(unittest.TestCase):
    def test_all_ways_for_small_machines(self):
        source = random.Random(132)
        words = []
        for _ in range(150):
            machine = made_plain(source, source.randrange(2), (), source.choice([2, 2, 3]), 2, source.choice([1, 2]))
            structure = machining.made_structure(source, 2)
            word, steps, _ = told_run(machine, structure, 100)
            words.append(word)
            accepted = word == "accepts"
            self.assertIs(accepts(machine, structure), accepted)
            self.assertIs(refusal(machine, structure) is None, accepted)
            for sentence in [sentence_of_heads(machine), sentence_of_room(machine)]:
                if cost(sentence, 2) <= 10 ** 6:
                    self.assertIs(holds(sentence, structure, {}), accepted)
            system = system_of_clock(machine, 2)
            expected = [(0,), (1,)] if accepted and steps <= 3 else []
            self.assertEqual(solve(system, structure)[-1], expected)
        for word in ["accepts", "stops", "goes on"]:
            self.assertGreater(words.count(word), 20)

    def test_one_formula_of_the_system_of_a_machine(self):
        machine = (0, (), 2, ((0, (("rel", "q", (), True),), (), 1),))
        system = system_of_clock(machine, 1)
        formula = one_formula(system, len(system) - 1)
        for rows in [[], [()]]:
            structure = Structure(2, [("q", 0, rows)])
            variables = list(system[-1][1])
            self.assertEqual(query(formula, structure, variables), [(0,), (1,)] if rows else [])


if __name__ == "__main__":
    unittest.main()
