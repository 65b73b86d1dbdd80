"""Plain machines with a clock made of sentences."""

import copy
import random
import unittest

from fitting import made_structure
from machining import told_machine_symbols
from machining import told_run
from samples import FALSE
from samples import TRUE
from samples import own
from samples import told_symbols
from samples import ways
from sayso.clocks import clock_of_sentence
from sayso.errors import BadArgument
from sayso.errors import BadFormula
from sayso.errors import TooLarge
from sayso.formulas import parse_formula
from sayso.machines import is_plain
from sayso.machines import run
from sayso.meaning import holds
from sayso.structures import Structure
from second import relations_of
from second import told
from second import told_cost
from sentences import CHEAP
from sentences import bound_count
from sentences import kind_count
from sentences import many_sentences
from sentences import told_parts
from sentences import with_bound

BOUND = ["some", "all", "lfp"]

KNOWN = [
    "some(x: lfp(r y: or(p(y), some(z: and(r(z), e(z y)))))(x))",
    "all(x: lfp(r y: or(p(y), some(z: and(r(z), e(z y)))))(x))",
    "not(some(x: lfp(r y: or(p(y), some(z: and(r(z), e(z y)))))(x)))",
    "some(x: and(not(lfp(r y: or(p(y), some(z: and(r(z), e(z y)))))(x)), not(not(e(x x)))))",
    "all(x y: or(x = y, lfp(r x y: or(e(x y), some(z: and(r(x z), e(z y)))))(x y)))",
    "some(x y: and(lfp(r x y: or(e(x y), some(z: and(r(x z), r(z y)))))(y x), not(e(y x))))",
    "all(x: not(all(y: not(lfp(r y: or(y = x, some(z: and(r(z), e(z y)))))(y)))))",
    "some(x: lfp(r y: or(p(y), lfp(s z: or(e(z y), some(w: and(s(w), or(r(w), r(z))))))(y)))(x))",
    "all(x: lfp(r y: or(not(p(y)), not(lfp(s z: e(z y))(y)), lfp(r z: or(p(z), r(z)))(y)))(x))",
    "some(x: lfp(r y: and(r(y), p(y)))(x))",
    "some(x: lfp(r y: true)(x))",
    "some(x: lfp(p y: or(some(y: p(y)), e(y y)))(x))",
    "all(x: or(not(lfp(r x: or(p(x), some(y: and(r(y), e(x y)))))(x)), some(y: e(x y))))",
    "some(x: lfp(x x y: or(e(x y), x(y x), some(y: x(y x))))(x x))",
    "all(x y: or(lfp(r a b: or(and(a = x, b = y), some(c: and(r(c b), e(c a)))))(y y), not(x < y)))",
    "not(and(some(x: lfp(r y: or(p(y), r(y)))(x)), all(x: not(lfp(r y: or(e(y x), r(y)))(x)))))",
    "some(x: all(y: lfp(r a: or(a = x, some(b: and(r(b), or(e(b a), and(e(a b), lfp(s c: or(c = a, and(s(b), e(c b))))(y)))))))(y)))",
]


class TestMachine(unittest.TestCase):
    def made(self, sentence):
        """The machine of a sentence, checked as far as no structure is needed."""
        before = copy.deepcopy(sentence)
        machine = clock_of_sentence(sentence)
        self.assertEqual(sentence, before)
        self.assertIs(is_plain(machine), True)
        bound = bound_count(sentence, BOUND)
        self.assertLessEqual(machine[0], bound + bound_count(sentence, ["lfp"]))
        self.assertEqual(sorted(machine[1]), sorted(len(own(part)) for part, _ in ways(sentence) if part[0] == "lfp"))
        self.assertLessEqual(machine[2], 20 * (told_parts(sentence) + bound) + 2)
        self.assertTrue(set(told_machine_symbols(machine)) <= set(told_symbols(sentence)))
        return machine

    def agrees(self, sentence, structure):
        machine = self.made(sentence)
        most = 40 * told_cost(sentence, structure.size)
        word, steps, _ = run(machine, structure, min(most, 200000))
        self.assertIn(word, ["accepts", "stops"])
        self.assertLessEqual(steps, most)
        self.assertIs(word == "accepts", told(sentence, structure.size, {}, relations_of(structure)), (sentence, structure.relations))
        return word == "accepts"

    def test_known(self):
        source = random.Random(81)
        for text in KNOWN:
            for size in [1, 1, 2, 2, 2, 3, 3]:
                self.agrees(parse_formula(text), made_structure(source, size))

    def test_more_elements(self):
        source = random.Random(82)
        answers = []
        for text in KNOWN[:6]:
            for _ in range(6):
                structure = made_structure(source, 4)
                sentence = parse_formula(text)
                word, steps, _ = run(self.made(sentence), structure, 200000)
                answers.append(holds(sentence, structure, {}))
                self.assertIs(word == "accepts", answers[-1])
                self.assertLessEqual(steps, 40 * told_cost(sentence, 4))
        self.assertGreater(min(answers.count(True), answers.count(False)), 5)

    def test_long_ways(self):
        # Each step of the fixed point finds one tuple alone, in the order of the elements or against it.
        sentence = parse_formula("all(x: lfp(r y: or(p(y), some(z: and(r(z), e(z y)))))(x))")
        for size in [1, 2, 5, 9, 16]:
            for edges in [[(at, at + 1) for at in range(size - 1)], [(at + 1, at) for at in range(size - 1)]]:
                for start in [0, size - 1]:
                    structure = Structure(size, [("e", 2, edges), ("p", 1, [(start,)])])
                    word, steps, _ = run(self.made(sentence), structure, 200000)
                    self.assertEqual(word == "accepts", size == 1 or start == (0 if (0, 1) in edges else size - 1))
                    self.assertLessEqual(steps, 40 * told_cost(sentence, size))

    def test_cheap(self):
        source = random.Random(83)
        for sentence in CHEAP:
            for size in [1, 2, 3]:
                self.agrees(sentence, made_structure(source, size))

    def test_cheap_fixed_points(self):
        deep = ("rel", "r0", ("x",))
        for at in range(5):
            deep = ("lfp", f"r{at}", ("x",), deep, ("x",))
            for size in [1, 2]:
                self.agrees(("some", ("x",), deep), Structure(size, []))
        two = ("lfp", "r", ("a", "b"), TRUE, ("x", "x"))
        for sentence in [("some", ("x",), two), ("all", ("x",), ("not", two)), ("some", ("x",), ("lfp", "r", ("a",), FALSE, ("x",)))]:
            for size in [1, 2, 3]:
                self.agrees(sentence, Structure(size, []))

    def test_made_sentences(self):
        source = random.Random(84)
        answers = []
        for sentence in many_sentences(source, 900, ["lfp"] * 3):
            size = source.choice([1, 2, 2, 3])
            if kind_count(sentence, "lfp") > 6 or told_cost(sentence, size) > 5000:
                continue
            answers.append((self.agrees(sentence, made_structure(source, size)), kind_count(sentence, "lfp") > 0))
        for answer in [True, False]:
            self.assertGreater(answers.count((answer, True)), 50)
            self.assertGreater(answers.count((answer, False)), 100)

    def test_by_the_words_of_runs(self):
        source = random.Random(85)
        for text in KNOWN[:9]:
            sentence, structure = parse_formula(text), made_structure(source, 2)
            machine = self.made(sentence)
            self.assertEqual(told_run(machine, structure, 20000), run(machine, structure, 20000))


class TestErrors(unittest.TestCase):
    def test_no_formulas(self):
        for value in [None, 0, "true", [], ("and",), ("lfp", "r", ("x",), ("not", ("rel", "r", ("x",))), ("x",))]:
            self.assertRaises(BadFormula, clock_of_sentence, value)

    def test_no_sentences_of_the_kind(self):
        for text in ["x = x", "e(x y)", "lfp(r x: p(x))(x)", "some(x: lfp(r x: e(x y))(x))", "some(x: tc(x y: e(x y))(x x))",
                     "some(x: pfp(r x: p(x))(x))", "guess(r 1: true)", "not(guess(r 0: r()))", "some(x: not(not(tc(x y: e(x y))(x x))))",
                     "guess(r 0: guess(s 0: r()))", "some(x: tc(x y: tc(y z: e(y z))(x y))(x x))", "some(x: pfp(r y: guess(s 0: s()))(x))"]:
            self.assertRaises(BadArgument, clock_of_sentence, parse_formula(text))
        self.assertRaises(BadArgument, clock_of_sentence, ("and", (with_bound(13, 20), ("eq", "x", "x"))))

    def test_too_many_heads(self):
        for count in [0, 1, 12]:
            self.assertEqual(run(clock_of_sentence(with_bound(count, 20)), Structure(1, []), 1000)[0], "stops")
        for count in [13, 18]:
            self.assertRaises(TooLarge, clock_of_sentence, with_bound(count, 20))
        # Variables of lfp count twice.
        for more, count, large in [(1, 5, False), (2, 5, False), (3, 5, True), (6, 3, False), (6, 4, True), (1, 6, True)]:
            fixed = ("lfp", "r", tuple("abcdef"[:count]), FALSE, ("x0",) * count)
            sentence = ("some", tuple(f"x{at}" for at in range(more)), fixed)
            if large:
                self.assertRaises(TooLarge, clock_of_sentence, sentence)
            else:
                self.assertEqual(clock_of_sentence(sentence)[1], (count,))

    def test_too_many_fixed_points(self):
        one = ("lfp", "r", ("a",), FALSE, ("x",))
        for many in range(1, 6):
            machine = clock_of_sentence(("some", ("x",), ("or", (one,) * many)))
            self.assertEqual(machine[1], (1,) * many)
        # Six lfp need as many variables, each with two heads, and one variable for their arguments.
        self.assertRaises(TooLarge, clock_of_sentence, ("some", ("x",), ("or", (one,) * 6)))

    def test_too_many_parts(self):
        # 20 * 199 + 2 is 3982, and 20 * 200 + 2 is 4002.
        for count, parts, large in [(0, 199, False), (0, 200, True), (12, 187, False), (12, 188, True), (0, 2000, True)]:
            sentence = with_bound(count, parts)
            if large:
                self.assertRaises(TooLarge, clock_of_sentence, sentence)
            else:
                self.assertEqual(run(clock_of_sentence(sentence), Structure(1, []), 40 * parts)[0], "stops")


if __name__ == "__main__":
    unittest.main()
