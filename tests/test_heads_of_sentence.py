"""Machines without tapes made of sentences."""

import copy
import random
import unittest

from fitting import made_structure
from machining import told_accepts
from machining import told_machine_symbols
from samples import FALSE
from samples import TRUE
from samples import nested
from samples import told_symbols
from samples import ways
from sayso.errors import BadArgument
from sayso.errors import BadFormula
from sayso.errors import TooLarge
from sayso.formulas import parse_formula
from sayso.heads import accepts
from sayso.heads import heads_of_sentence
from sayso.heads import sentence_of_heads
from sayso.machines import check_machine
from sayso.meaning import holds
from sayso.structures import Structure
from second import relations_of
from second import told
from sentences import CHEAP
from sentences import bound_count
from sentences import kind_count
from sentences import many_sentences
from sentences import told_parts
from sentences import with_bound

BOUND = ["some", "all", "tc"]

KNOWN = [
    "some(x y: and(tc(x y: e(x y))(x y), p(x), not(x = y)))",
    "all(x: some(y: tc(a b: or(e(a b), e(b a)))(x y)))",
    "not(some(x: all(y: not(tc(x y: e(x y))(x y)))))",
    "not(all(x y: not(tc(a b: and(e(a b), tc(c d: e(d c))(b a)))(x y))))",
    "not(not(some(x: tc(x y: not(e(x y)))(x x))))",
    "all(x: tc(x y: false)(x x))",
    "some(x y: and(x < y, tc(x y: false)(x y)))",
    "some(x y: tc(a b c d: and(e(a c), e(b d), not(a = b)))(x y y x))",
    "all(x y: or(x = y, tc(a b c d: and(e(a c), b < d))(x x y y)))",
    "some(x: and(p(x), some(x: not(p(x))), tc(x y: e(x y))(x x)))",
    "not(some(x y: and(x < y, not(tc(z w: and(z < w, not(some(x: and(z < x, x < w)))))(x y)))))",
    "all(x: or(not(p(x)), some(y: tc(a b: and(e(a b), some(x: and(p(x), a < x))))(x y))))",
    "some(x y z: tc(a b: or(and(a = x, b = y), and(a = y, b = z)))(x z))",
    "all(x: some(y: not(not(tc(a b: tc(c d: or(and(e(c d), c = a), and(e(d c), d = b)))(a b))(x y)))))",
    "and(some(x: not(all(y: or(y < x, x = y)))), or(not(some(x: e(x x))), q()))",
]


def is_below_not(formula):
    return any(part[0] == "tc" and [outer[0] for outer in above].count("not") % 2 for part, above in ways(formula))


class TestMachine(unittest.TestCase):
    def made(self, sentence):
        """The machine of a sentence, checked as far as no structure is needed."""
        before = copy.deepcopy(sentence)
        machine = heads_of_sentence(sentence)
        self.assertEqual(sentence, before)
        check_machine(machine)
        bound = bound_count(sentence, BOUND)
        self.assertLessEqual(machine[0], bound)
        self.assertEqual(machine[1], ())
        self.assertLessEqual(machine[2], 10 * (told_parts(sentence) + bound) + 2)
        self.assertTrue(set(told_machine_symbols(machine)) <= set(told_symbols(sentence)))
        return machine

    def agrees(self, sentence, structure):
        machine = self.made(sentence)
        if machine[2] * structure.size ** machine[0] > 20000:
            return None
        found = accepts(machine, structure)
        self.assertIs(found, told(sentence, structure.size, {}, relations_of(structure)), (sentence, structure.relations))
        return found

    def test_known(self):
        source = random.Random(71)
        for text in KNOWN:
            answers = [self.agrees(parse_formula(text), made_structure(source, size)) for size in [1, 1, 2, 2, 2, 3, 3, 3]]
            self.assertGreater(len(answers) - answers.count(None), 4)

    def test_reached_in_all_ways(self):
        sentence = parse_formula("some(x y: and(p(x), s(y), tc(a b: e(a b))(x y)))")
        for rows, answer in [([(0, 1), (1, 2), (2, 3)], True), ([(0, 1), (1, 2)], False), ([(3, 2), (2, 1), (1, 0)], False),
                             ([(0, 2), (2, 1), (1, 3), (3, 0)], True), ([], False), ([(0, 1), (1, 0), (2, 3)], False)]:
            structure = Structure(4, [("e", 2, rows), ("p", 1, [(0,)]), ("s", 1, [(3,)])])
            self.assertIs(self.agrees(sentence, structure), answer)

    def test_cheap(self):
        source = random.Random(72)
        for sentence in CHEAP:
            for size in [1, 2, 3]:
                self.agrees(sentence, made_structure(source, size))

    def test_made_sentences(self):
        source = random.Random(73)
        answers = []
        for sentence in many_sentences(source, 1200, ["tc"] * 3):
            if is_below_not(sentence):
                sentence = ("not", sentence)
            if is_below_not(sentence):
                self.assertRaises(BadArgument, heads_of_sentence, sentence)
                continue
            answer = self.agrees(sentence, made_structure(source, source.choice([1, 2, 2, 3])))
            answers.append((answer, kind_count(sentence, "tc") > 0))
        for answer in [True, False]:
            self.assertGreater(answers.count((answer, True)), 40)
            self.assertGreater(answers.count((answer, False)), 100)

    def test_by_the_words_of_acceptance(self):
        source = random.Random(74)
        for sentence in many_sentences(source, 40, [], 4):
            structure = made_structure(source, 2)
            self.assertIs(told_accepts(self.made(sentence), structure), holds(sentence, structure, {}))

    def test_there_and_back(self):
        # A machine of the sentence of a machine, where this is small enough.
        for conditions, rows in [((), []), ((("last", 0, True),), []), ((("rel", "p", (0,), True),), [(0,)]), ((("rel", "p", (0,), True),), [])]:
            machine = (1, (), 2, ((0, conditions, (), 1),))
            structure = Structure(2, [("p", 1, rows)])
            again = heads_of_sentence(sentence_of_heads(machine))
            if again[2] * 2 ** again[0] <= 20000:
                self.assertIs(accepts(again, structure), accepts(machine, structure))


class TestErrors(unittest.TestCase):
    def test_no_formulas(self):
        for value in [None, 0, "true", [], ("and",), ("rel", "e", ("x",) * 7), ("tc", ("x",), TRUE, ("x",)),
                      ("and", (("rel", "e", ("x",)), ("rel", "e", ("x", "x")))), ("lfp", "r", ("x",), ("not", ("rel", "r", ("x",))), ("x",))]:
            self.assertRaises(BadFormula, heads_of_sentence, value)

    def test_no_sentences_of_the_kind(self):
        for text in ["x = x", "e(x y)", "some(x: e(x y))", "tc(x y: e(x y))(x y)", "some(x: lfp(r y: p(y))(x))", "some(x: pfp(r y: p(y))(x))",
                     "guess(r 1: true)", "and(q(), guess(r 0: r()))", "some(x: not(tc(x y: e(x y))(x x)))",
                     "not(all(x: tc(x y: e(x y))(x x)))", "some(x: tc(x y: not(tc(x y: e(x y))(x y)))(x x))",
                     "some(x: not(not(not(tc(x y: e(x y))(x x)))))", "not(and(q(), some(x: tc(x y: e(x y))(x x))))",
                     "some(x: tc(x y: e(x z))(x x))", "guess(r 0: guess(s 0: r()))", "some(x: lfp(r y: lfp(s z: r(z))(y))(x))",
                     "some(x: pfp(r y: lfp(s z: p(z))(y))(x))"]:
            self.assertRaises(BadArgument, heads_of_sentence, parse_formula(text))
        # This comes before TooLarge.
        self.assertRaises(BadArgument, heads_of_sentence, ("and", (with_bound(13, 20), ("eq", "x", "x"))))
        self.assertRaises(BadArgument, heads_of_sentence, ("and", (with_bound(13, 20), ("guess", "r", 1, TRUE))))

    def test_too_many_variables(self):
        for count in [0, 1, 6, 11, 12]:
            self.assertIs(accepts(heads_of_sentence(with_bound(count, 20)), Structure(1, [])), False)
        for count in [13, 14, 18]:
            self.assertRaises(TooLarge, heads_of_sentence, with_bound(count, 20))
        eight = ("tc", tuple("abcdefgh"), FALSE, ("x",) * 8)
        for more, large in [((), False), (("y", "z", "w"), False), (("y", "z", "w", "v"), True)]:
            sentence = ("some", ("x",) + more, eight)
            if large:
                self.assertRaises(TooLarge, heads_of_sentence, sentence)
            else:
                self.assertEqual(heads_of_sentence(sentence)[0], 9 + len(more))
        both = ("and", (("all", tuple("abcdef"), TRUE), ("some", tuple("abcdef"), TRUE)))
        self.assertEqual(heads_of_sentence(both)[0], 12)
        self.assertRaises(TooLarge, heads_of_sentence, ("or", both[1] + (("some", ("x",), TRUE),)))

    def test_too_many_parts(self):
        # 10 * (399) + 2 is 3992, and 10 * 400 + 2 is 4002.
        for count, parts, large in [(0, 399, False), (0, 400, True), (12, 387, False), (12, 388, True), (1, 398, False), (1, 399, True),
                                    (0, 1999, True)]:
            sentence = with_bound(count, parts)
            if large:
                self.assertRaises(TooLarge, heads_of_sentence, sentence)
            else:
                check_machine(heads_of_sentence(sentence))

    def test_deep(self):
        machine = heads_of_sentence(nested(40))
        self.assertIs(accepts(machine, Structure(1, [])), False)


if __name__ == "__main__":
    unittest.main()
