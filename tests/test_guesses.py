"""Machines with a guess, and those made of sentences that begin with a guess."""

import copy
import random
import unittest

from fitting import made_structure
from machining import REACHES
from machining import WALKS
from machining import made_plain
from machining import rows_of
from machining import told_machine_symbols
from machining import told_run
from samples import FALSE
from samples import TRUE
from samples import own
from samples import told_symbols
from samples import ways
from sayso.errors import BadArgument
from sayso.errors import BadFormula
from sayso.errors import NotFitting
from sayso.errors import TooLarge
from sayso.formulas import parse_formula
from sayso.guesses import accepts_some
from sayso.guesses import machine_of_guess
from sayso.machines import is_plain
from sayso.meaning import holds
from sayso.structures import Structure
from second import relations_of
from second import told
from second import told_cost
from sentences import CHEAP
from sentences import bound_count
from sentences import kind_count
from sentences import many_sentences
from sentences import told_parts
from sentences import with_bound

import machining

# A machine that accepts if the guess on its tape is the relation p, in so many steps as there are elements.
SAME = (1, (1,), 2, tuple(
    (0, (("mark", 0, (0,), flag), ("rel", "p", (0,), flag), ("last", 0, last)), () if last else (("up", 0),), int(last))
    for flag in (True, False) for last in (True, False)))


def guesses_in_order(size, arity):
    """The sets of cells in the order of the numbers whose binary digits they are."""
    cells = rows_of(size, arity)
    return [[cell for at, cell in enumerate(cells) if number >> at & 1] for number in range(2 ** len(cells))]


class TestAcceptsSome(unittest.TestCase):
    def test_known(self):
        for size in [1, 2, 3, 9]:
            for rows in ([], [(0,)], [(size - 1,)], [(at,) for at in range(size)]):
                structure = Structure(size, [("p", 1, rows)])
                self.assertEqual(accepts_some(SAME, structure, size), sorted(set(rows)))
                self.assertIs(accepts_some(SAME, structure, size - 1), None)

    def test_the_first_guess(self):
        marked = lambda flags: tuple(("mark", 0, (), flag) for flag in flags)
        for flag in [True, False]:
            machine = (0, (0,), 2, ((0, marked([flag]), (), 1),))
            self.assertEqual(accepts_some(machine, Structure(2, []), 1), [()] if flag else [])
        # Any guess but the empty one: the first one is that of the first cell. With two cells at least it is {0, 1}.
        any_cell = (1, (1,), 2, ((0, (("mark", 0, (0,), True),), (), 1), (0, (("mark", 0, (0,), False),), (("up", 0),), 0)))
        self.assertEqual(accepts_some(any_cell, Structure(3, []), 5), [(0,)])
        two = (1, (1,), 3, ((0, (("mark", 0, (0,), True),), (("up", 0),), 2), (0, (("mark", 0, (0,), False),), (("up", 0),), 0),
                            (2, (("mark", 0, (0,), True),), (), 1), (2, (("mark", 0, (0,), False),), (("up", 0),), 2)))
        self.assertEqual(accepts_some(two, Structure(3, []), 5), [(0,), (1,)])
        last = (2, (2,), 2, ((0, (("last", 0, False),), (("up", 0),), 0), (0, (("last", 0, True), ("mark", 0, (0, 1), True)), (), 1)))
        self.assertEqual(accepts_some(last, Structure(3, []), 5), [(2, 0)])

    def test_no_steps(self):
        self.assertIs(accepts_some((0, (0,), 2, ((0, (), (), 1),)), Structure(1, []), 0), None)
        self.assertEqual(accepts_some((0, (0,), 2, ((0, (), (), 1),)), Structure(1, []), 1), [])
        self.assertIs(accepts_some((0, (0,), 2, ()), Structure(1, []), 200000), None)

    def test_second_tape(self):
        # The guess is copied to the second tape and looked for there.
        machine = (1, (0, 1), 3, ((0, (("mark", 0, (), True),), (("write", 1, (0,), True), ("write", 0, (), False)), 2),
                                  (2, (("mark", 1, (0,), True), ("mark", 0, (), False)), (), 1)))
        self.assertEqual(accepts_some(machine, Structure(2, []), 2), [()])
        self.assertIs(accepts_some(machine, Structure(2, []), 1), None)
        # What a run with another guess has written is gone.
        machine = (1, (0, 0), 3, ((0, (("mark", 1, (), True),), (), 1), (0, (("mark", 1, (), False),), (("write", 1, (), True),), 2)))
        self.assertIs(accepts_some(machine, Structure(2, []), 5), None)

    def test_against_the_second(self):
        source = random.Random(101)
        found = []
        for _ in range(600):
            tapes = tuple(source.choice([0, 1, 1, 2]) for _ in range(source.choice([1, 1, 2])))
            machine = made_plain(source, source.randrange(3), tapes, source.randrange(2, 5), 3, 3)
            structure = machining.made_structure(source, source.choice([1, 2, 2, 3]) if tapes[0] < 2 else source.choice([1, 2]))
            most = source.choice([0, 1, 2, 3, 10])
            before = copy.deepcopy((machine, structure.relations))
            expected = [guess for guess in guesses_in_order(structure.size, tapes[0])
                        if told_run(machine, structure, most, guess)[0] == "accepts"]
            found.append(accepts_some(machine, structure, most))
            self.assertEqual(found[-1], expected[0] if expected else None)
            self.assertEqual((machine, structure.relations), before)
        self.assertGreater(found.count(None), 50)
        self.assertGreater(len([guess for guess in found if guess]), 15)

    def test_errors(self):
        structure = Structure(2, [("p", 1, [])])
        for machine in [REACHES, WALKS, (0, (), 2, ()), (1, (1,), 2, ((0, (), (), 1), (0, (), (), 0)))]:
            self.assertRaises(BadArgument, accepts_some, machine, structure, 5)
        for most in [-1, 200001, True, False, None, "5", 5.0, [5]]:
            self.assertRaises(BadArgument, accepts_some, SAME, structure, most)
            self.assertRaises(BadArgument, accepts_some, SAME, Structure(16, []), most)
        self.assertRaises(NotFitting, accepts_some, SAME, Structure(16, []), 5)
        self.assertRaises(NotFitting, accepts_some, SAME, Structure(2, [("p", 2, [])]), 5)
        self.assertEqual(accepts_some(SAME, structure, 200000), [])

    def test_too_large(self):
        for size, tapes, large in [(9, (1,), False), (10, (1,), True), (3, (2,), False), (4, (2,), True), (2, (3,), False), (2, (4,), True),
                                   (16, (0,), False), (16, (0, 3), False), (16, (0, 4), True), (16, (0, 0, 3, 4), True), (1, (6, 6), False),
                                   (3, (3,), True), (4, (1, 6), False), (5, (1, 6), True)]:
            machine = (0, tapes, 2, ((0, (), (), 1),))
            with self.subTest(size=size, tapes=tapes):
                if large:
                    self.assertRaises(TooLarge, accepts_some, machine, Structure(size, []), 5)
                else:
                    self.assertEqual(accepts_some(machine, Structure(size, []), 5), [])


KNOWN = [
    "guess(g 1: and(some(x: g(x)), some(x: not(g(x))), all(x y: or(not(e(x y)), not(g(x)), not(g(y))))))",
    "guess(g 1: all(x y: or(not(e(x y)), and(g(x), not(g(y))), and(g(y), not(g(x))))))",
    "guess(g 2: all(x: some(y: and(g(x y), e(x y)))))",
    "guess(g 0: or(and(g(), q()), and(not(g()), not(q()))))",
    "guess(g 0: and(g(), not(g())))",
    "guess(g 1: false)",
    "guess(g 1: true)",
    "guess(g 1: some(x: lfp(r x: or(g(x), some(y: and(r(y), e(y x)))))(x)))",
    "guess(g 1: and(some(x: not(g(x))), all(x: lfp(r x: or(g(x), some(y: and(r(y), e(y x)))))(x))))",
    "guess(g 1: and(all(x: or(g(x), p(x))), not(all(x: lfp(g y: or(p(y), some(z: and(g(z), e(z y)))))(x)))))",
    "guess(e 1: and(some(x: e(x)), some(x: and(p(x), not(e(x))))))",
    "guess(p 2: all(x: some(y: and(p(x y), lfp(p z: or(z = x, some(w: and(p(w), e(w z)))))(y)))))",
    "guess(x 1: some(x: and(x(x), not(lfp(x x: or(p(x), x(x)))(x)))))",
]


class TestMachineOfGuess(unittest.TestCase):
    def made(self, sentence):
        """The machine of a sentence, checked as far as no structure is needed."""
        before = copy.deepcopy(sentence)
        machine = machine_of_guess(sentence)
        self.assertEqual(sentence, before)
        self.assertIs(is_plain(machine), True)
        body = sentence[3]
        bound = bound_count(body, ["some", "all", "lfp"])
        self.assertLessEqual(machine[0], bound + bound_count(body, ["lfp"]))
        self.assertEqual(machine[1][0], sentence[2])
        self.assertEqual(sorted(machine[1][1:]), sorted(len(own(part)) for part, _ in ways(body) if part[0] == "lfp"))
        self.assertLessEqual(machine[2], 20 * (told_parts(body) + bound) + 2)
        self.assertTrue(set(told_machine_symbols(machine)) <= set(told_symbols(sentence)))
        return machine

    def agrees(self, sentence, structure, source):
        """Check the runs with some guesses, and the first guess."""
        _, name, arity, body = sentence
        machine = self.made(sentence)
        size, relations = structure.size, relations_of(structure)
        most = 40 * told_cost(body, size)
        guesses = guesses_in_order(size, arity)
        answers = {}
        for at in source.sample(range(len(guesses)), min(8, len(guesses))):
            word, steps, _ = told_run(machine, structure, most, guesses[at])
            answers[at] = told(body, size, {}, {**relations, name: set(guesses[at])})
            self.assertEqual(word, "accepts" if answers[at] else "stops", (sentence, guesses[at]))
            self.assertLessEqual(steps, most)
        if size ** arity > 9 or most > 200000:
            return None
        found = accepts_some(machine, structure, most)
        if len(answers) == len(guesses):
            accepted = [at for at in sorted(answers) if answers[at]]
            self.assertEqual(found, guesses[accepted[0]] if accepted else None)
        elif found is None:
            self.assertNotIn(True, list(answers.values()))
        else:
            self.assertTrue(told(body, size, {}, {**relations, name: set(found)}))
        return found is not None

    def test_known(self):
        source = random.Random(102)
        for text in KNOWN:
            sentence = parse_formula(text)
            for size in [1, 2, 2, 3]:
                structure = made_structure(source, size)
                found = self.agrees(sentence, structure, source)
                if size < 3 and found is not None:
                    self.assertIs(found, holds(sentence, structure, {}))

    def test_cheap(self):
        source = random.Random(103)
        for sentence in CHEAP:
            for arity in [0, 1]:
                if told_parts(sentence) < 40:
                    self.agrees(("guess", "g", arity, sentence), made_structure(source, source.choice([1, 2])), source)

    def test_made_sentences(self):
        source = random.Random(104)
        answers = []
        for _ in range(3):
            for arity in [0, 1, 2]:
                name = source.choice(["g", "g", "e", "p", "q"])
                arities = {"e": 2, "p": 1, "q": 0, "x": 1, name: arity, "g": arity}
                for body in many_sentences(source, 40, ["lfp"], 5, arities):
                    symbols = dict(told_symbols(("guess", name, arity, body)))
                    size = source.choice([1, 2, 2, 3]) if arity < 2 else source.choice([1, 2])
                    if "g" in symbols or told_cost(body, size) > 2000 or kind_count(body, "lfp") > 5:
                        continue
                    answers.append(self.agrees(("guess", name, arity, body), made_structure(source, size), source))
        self.assertGreater(min(answers.count(True), answers.count(False)), 60)

    def test_bad_formulas(self):
        for value in [None, 0, "guess", (), ("guess", "g", 4, TRUE), ("guess", "g", True, TRUE), ("guess", "G", 1, TRUE),
                      ("guess", "g", 1, ("rel", "g", ()))]:
            self.assertRaises(BadFormula, machine_of_guess, value)

    def test_bad_arguments(self):
        for text in ["true", "q()", "not(guess(g 1: true))", "some(x: guess(g 1: g(x)))", "guess(g 1: guess(h 1: true))",
                     "guess(g 1: some(x: tc(x y: e(x y))(x x)))", "guess(g 1: some(x: pfp(r x: p(x))(x)))", "guess(g 1: g(x))",
                     "guess(g 1: not(guess(g 0: g())))", "and(guess(g 0: g()), true)", "guess(g 0: x = y)"]:
            self.assertRaises(BadArgument, machine_of_guess, parse_formula(text))
        self.assertRaises(BadArgument, machine_of_guess, ("guess", "g", 1, ("and", (with_bound(13, 20), ("eq", "x", "x")))))

    def test_too_large(self):
        for count, parts, large in [(12, 20, False), (13, 20, True), (0, 199, False), (0, 200, True), (12, 187, False), (12, 188, True)]:
            sentence = ("guess", "g", 1, with_bound(count, parts))
            if large:
                self.assertRaises(TooLarge, machine_of_guess, sentence)
            else:
                self.assertIs(accepts_some(machine_of_guess(sentence), Structure(1, []), 8000), None)
        one = ("lfp", "r", ("a",), FALSE, ("x",))
        self.assertEqual(machine_of_guess(("guess", "g", 3, ("some", ("x",), ("or", (one,) * 5))))[1], (3,) + (1,) * 5)
        self.assertRaises(TooLarge, machine_of_guess, ("guess", "g", 3, ("some", ("x",), ("or", (one,) * 6))))


if __name__ == "__main__":
    unittest.main()
