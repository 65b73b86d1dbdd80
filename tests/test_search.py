"""Machines without tapes: what they accept, by which path, and refusals."""

import copy
import random
import unittest

from machining import REACHES
from machining import WALKS
from machining import made_machine
from machining import made_structure
from machining import told_accepts
from machining import told_first
from machining import told_levels
from machining import told_next
from sayso.errors import BadArgument
from sayso.errors import NotFitting
from sayso.errors import TooLarge
from sayso.heads import accepts
from sayso.heads import is_refusal
from sayso.heads import path
from sayso.heads import refusal
from sayso.structures import Structure

FULL = Structure(3, [("p", 1, [(0,), (1,), (2,)])])
GAP = Structure(3, [("p", 1, [(0,), (2,)])])


def many_machines(seed, count):
    source = random.Random(seed)
    for _ in range(count):
        machine = made_machine(source, source.randrange(4), (), source.randrange(2, 7), source.randrange(14), 2, 4)
        yield machine, made_structure(source, source.randrange(1, 5))


class TestAccepts(unittest.TestCase):
    def test_known(self):
        self.assertIs(accepts(WALKS, FULL), True)
        self.assertEqual(path(WALKS, FULL), [0, 0, 1])
        self.assertIs(accepts(WALKS, GAP), False)
        self.assertIs(path(WALKS, GAP), None)
        for rows, answer in [([(0, 1), (1, 2)], True), ([(0, 1)], False), ([(2, 1), (1, 0)], False), ([(0, 2)], True)]:
            self.assertIs(accepts(REACHES, Structure(3, [("e", 2, rows)])), answer)

    def test_no_rules(self):
        for machine in [(0, (), 2, ()), (3, (), 5, ()), (0, (), 3, ((2, (), (), 1),))]:
            self.assertIs(accepts(machine, FULL), False)
            self.assertIs(path(machine, FULL), None)
            self.assertEqual(refusal(machine, FULL), [[told_first(machine)]] * 2)

    def test_against_the_second(self):
        answers = []
        for machine, structure in many_machines(41, 500):
            before = copy.deepcopy((machine, structure.relations))
            answers.append(accepts(machine, structure))
            self.assertIs(answers[-1], told_accepts(machine, structure))
            self.assertEqual((machine, structure.relations), before)
        self.assertGreater(min(answers.count(True), answers.count(False)), 100)

    def test_paths(self):
        longest = 0
        for machine, structure in many_machines(42, 500):
            found = path(machine, structure)
            levels = told_levels(machine, structure)
            shortest = [steps for steps, level in enumerate(levels) if any(here[0] == 1 for here in level)]
            if found is None:
                self.assertEqual(shortest, [])
                continue
            self.assertEqual(len(found), shortest[0])
            here = told_first(machine)
            for index in found:
                here = dict(told_next(machine, structure, here))[index]
            self.assertEqual(here[0], 1)
            longest = max(longest, len(found))
        self.assertGreaterEqual(longest, 4)

    def test_long_path(self):
        structure = Structure(16, [("p", 1, [(element,) for element in range(16)])])
        self.assertEqual(path(WALKS, structure), [0] * 15 + [1])
        odometer = (2, (), 2, ((0, (("last", 0, False),), (("up", 0),), 0),
                               (0, (("last", 0, True), ("last", 1, False)), (("zero", 0), ("up", 1)), 0),
                               (0, (("last", 0, True), ("last", 1, True)), (), 1)))
        self.assertEqual(len(path(odometer, Structure(16, []))), 256)


class TestRefusals(unittest.TestCase):
    def test_known(self):
        self.assertIs(refusal(WALKS, FULL), None)
        zero, one = (0, (0,), ()), (0, (1,), ())
        self.assertEqual(refusal(WALKS, GAP), [[zero], [zero, one], [zero, one]])

    def test_one_or_the_other(self):
        refused = 0
        for machine, structure in many_machines(43, 500):
            if machine[2] * structure.size ** machine[0] > 2000:
                continue
            found = refusal(machine, structure)
            if accepts(machine, structure):
                self.assertIs(found, None)
                self.assertIs(is_refusal(machine, structure, [sorted(level) for level in told_levels(machine, structure)]), False)
            else:
                self.assertEqual(found, [sorted(level) for level in told_levels(machine, structure)])
                self.assertIs(is_refusal(machine, structure, found), True)
                self.assertTrue(all(type(level) is list for level in found))
                refused += 1
        self.assertGreater(refused, 150)

    def test_changed_levels(self):
        source = random.Random(44)
        checked = 0
        for machine, structure in many_machines(45, 300):
            if machine[2] * structure.size ** machine[0] > 2000 or accepts(machine, structure):
                continue
            found = refusal(machine, structure)
            before = copy.deepcopy(found)
            at = source.randrange(len(found))
            level = found[at]
            everything = [(state, stands, ()) for state in range(machine[2]) for stands in {here[1] for here in found[-1]}]
            others = [here for here in everything if here not in level]
            wrong = [found[:at] + found[at + 1:], found[:at] + [level] + found[at:], found + [found[-1]], found[:-1], found[::-1],
                     found[:at] + [level[1:]] + found[at + 1:], found[:at] + [level[:-1]] + found[at + 1:],
                     found[:at] + [level + level[-1:]] + found[at + 1:], found[:at] + [tuple(level)] + found[at + 1:], tuple(found),
                     found[:at] + [None] + found[at + 1:], found + [[]], [[]] + found]
            if others:
                put = sorted(level + [source.choice(others)])
                wrong.append(found[:at] + [put] + found[at + 1:])
                wrong.append(found[:-2] + [put, put])
            if len(level) > 1:
                wrong.append(found[:at] + [level[::-1]] + found[at + 1:])
            for levels in wrong:
                if levels != found:
                    self.assertIs(is_refusal(machine, structure, levels), False, (machine, levels))
                    checked += 1
            self.assertIs(is_refusal(machine, structure, found), True)
            self.assertEqual(found, before)
        self.assertGreater(checked, 500)

    def test_levels_that_do_not_end(self):
        zero, one = (0, (0,), ()), (0, (1,), ())
        self.assertIs(is_refusal(WALKS, GAP, [[zero], [zero, one]]), False)
        self.assertIs(is_refusal(WALKS, GAP, [[zero], [zero]]), False)
        self.assertIs(is_refusal(WALKS, GAP, [[zero], [zero, one], [zero, one], [zero, one]]), False)
        self.assertIs(is_refusal(WALKS, GAP, [[zero]]), False)

    def test_anything(self):
        zero, one = (0, (0,), ()), (0, (1,), ())
        good = [[zero], [zero, one], [zero, one]]
        for value in [None, 0, True, "levels", (), {}, [], [[]], [None], [zero], [[zero], None], [[None]], [[zero], [[0, (0,), ()]]]]:
            self.assertIs(is_refusal(WALKS, GAP, value), False)
        # True and False are not integers, and a list is no tuple.
        for wrong in [(False, (0,), ()), (0, (False,), ()), (0, [0], ()), [0, (0,), ()], (0, (0,), []), (0, (0,), ((),)), (0, (0,)),
                      (0.0, (0,), ()), None]:
            self.assertIs(is_refusal(WALKS, GAP, [[wrong]] + good[1:]), False)
            self.assertIs(is_refusal(WALKS, GAP, good[:2] + [[wrong, one]]), False)
        self.assertIs(is_refusal(WALKS, GAP, [[zero], [zero, (False, (True,), ())], [zero, one]]), False)
        self.assertIs(is_refusal(WALKS, GAP, good), True)

    def test_new_lists(self):
        found = refusal(WALKS, GAP)
        self.assertIsNot(found[-1], found[-2])
        found[0].clear()
        found.clear()
        self.assertEqual(len(refusal(WALKS, GAP)), 3)


class TestErrors(unittest.TestCase):
    def each(self, machine, structure, error):
        for function, rest in [(accepts, ()), (path, ()), (refusal, ()), (is_refusal, ([],)), (is_refusal, (None,))]:
            self.assertRaises(error, function, machine, structure, *rest)

    def test_tapes(self):
        for tapes in [(0,), (1, 2)]:
            self.each((0, tapes, 2, ()), FULL, BadArgument)
            self.each((12, tapes, 2, ((0, (("rel", "f", (), True),), (), 1),)), FULL, BadArgument)

    def test_not_fitting(self):
        self.each((12, (), 2, ((0, (("rel", "f", (), True),), (), 1),)), FULL, NotFitting)
        self.each((1, (), 2, ((0, (("rel", "p", (0, 0), True),), (), 1),)), FULL, NotFitting)

    def test_too_large(self):
        # 20000 is 2 * 10 ** 4 and 1250 * 4 ** 2; 2000 is 2 * 10 ** 3 and 125 * 4 ** 2.
        for heads, states, size, large in [(4, 2, 10, False), (4, 3, 10, True), (2, 1250, 4, False), (2, 1251, 4, True), (0, 4000, 16, False),
                                           (12, 4000, 1, False), (12, 2, 2, False), (12, 5, 2, True), (12, 4, 2, False), (12, 2, 3, True)]:
            machine = (heads, (), states, ((0, (), (), states - 1),))
            structure = Structure(size, [])
            with self.subTest(machine=machine, size=size):
                if large:
                    self.assertRaises(TooLarge, accepts, machine, structure)
                    self.assertRaises(TooLarge, path, machine, structure)
                else:
                    self.assertIs(accepts(machine, structure), states == 2)
                    self.assertEqual(path(machine, structure), [0] if states == 2 else None)
        for heads, states, size, large in [(3, 2, 10, False), (3, 3, 10, True), (2, 125, 4, False), (2, 126, 4, True), (0, 2000, 16, False),
                                           (0, 2001, 1, True), (12, 2001, 1, True), (12, 2000, 1, False), (12, 2, 2, True)]:
            machine = (heads, (), states, ((0, (), (), 0),))
            structure = Structure(size, [])
            with self.subTest(machine=machine, size=size):
                if large:
                    self.assertRaises(TooLarge, refusal, machine, structure)
                    self.assertRaises(TooLarge, is_refusal, machine, structure, None)
                else:
                    found = refusal(machine, structure)
                    self.assertEqual(found, [[told_first(machine)]] * 2)
                    self.assertIs(is_refusal(machine, structure, found), True)
        wrong = (12, (), 4000, ((0, (("rel", "f", (), True),), (), 1),))
        self.each(wrong, Structure(16, []), NotFitting)


if __name__ == "__main__":
    unittest.main()
