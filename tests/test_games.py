"""Positions, lengths and keeping tables of games with pebbles."""

import copy
import random
import unittest

from playing import cycle
from playing import line
from playing import many_pairs
from playing import told_keeping
from playing import told_lengths
from playing import told_positions
from playing import told_sound
from sayso.errors import BadArgument
from sayso.errors import NotFitting
from sayso.errors import TooLarge
from sayso.games import is_keeping
from sayso.games import is_sound
from sayso.games import keeping_table
from sayso.games import length
from sayso.games import parting
from sayso.structures import Structure

LINE = line(3)
NO_POSITIONS = [None, 0, True, "position", (), [], {}, [None], ((0, 0), None, None, None), (None,) * 4, ([0, 0],), ((0,),), ((0, 0, 0),),
                ((3, 0),), ((0, 3),), ((-1, 0),), ((0, -1),), ((True, 0),), ((0, False),), ((None, 0),), (0,), (("0", 0),),
                (None, [0, 0]), (None, 5), ((0, 0), (0, 7)), {None: 1}, ((0.0, 0),)]
NO_PEBBLES = [0, 4, -1, True, False, None, "1", 1.0, (1,)]


class TestSound(unittest.TestCase):
    def test_known(self):
        for position, sound in [((None,), True), (((0, 2),), True), (((0, 0), (1, 1)), True), (((0, 0), (1, 2)), False),
                                (((0, 0), (0, 0)), True), (((0, 0), (0, 1)), False), (((0, 1), (2, 1)), False),
                                (((0, 1), None, (1, 2)), True), (((0, 1), (1, 2), (2, 0)), False), (((2, 2), (1, 1), (0, 0)), True),
                                ((None, None, None), True), (((1, 1), None), True), (((0, 1), (2, 0)), False), (((2, 0), (0, 2)), True)]:
            self.assertIs(is_sound(LINE, LINE, position), sound, position)

    def test_loops_and_repetitions(self):
        looped = Structure(2, [("e", 2, [(0, 0)])])
        self.assertIs(is_sound(looped, looped, ((0, 1),)), False)
        self.assertIs(is_sound(looped, looped, ((1, 1),)), True)
        triples = [Structure(2, [("t", 3, rows)]) for rows in ([(0, 1, 0)], [(0, 1, 1)])]
        self.assertIs(is_sound(triples[0], triples[1], ((0, 0),)), True)
        self.assertIs(is_sound(triples[0], triples[1], ((0, 0), (1, 1))), False)
        self.assertIs(is_sound(triples[0], triples[1], ((0, 1), (1, 0))), False)
        self.assertIs(is_sound(triples[0], triples[0], ((1, 1), (0, 0))), True)

    def test_arity_0(self):
        holding, failing = Structure(1, [("q", 0, [()])]), Structure(2, [("q", 0, [])])
        for position in [(None,), (None, None), ((0, 0),), ((0, 1), None)]:
            self.assertIs(is_sound(holding, failing, position), False)
            self.assertIs(is_sound(holding, holding.with_relation("q", 0, [(), ()]), tuple(None for _ in position)), True)
        self.assertEqual(length(holding, failing, (None, None)), 0)

    def test_order_of_relations_and_of_elements(self):
        first = Structure(2, [("e", 2, [(0, 1)]), ("p", 1, [(0,)])])
        second = Structure(3, [("p", 1, [(2,)]), ("e", 2, [(2, 0)])])
        self.assertIs(is_sound(first, second, ((0, 2), (1, 0))), True)
        self.assertIs(is_sound(first, second, ((0, 2), (1, 1))), False)
        self.assertIs(is_sound(Structure(2, []), Structure(2, []), ((0, 1), (1, 0))), True)

    def test_against_the_words(self):
        source = random.Random(21)
        found = []
        for first, second in many_pairs(source, 150, 4, (("e", 2), ("p", 1), ("q", 0), ("t", 3))):
            for k in [1, 2, 3]:
                entries = [None] + [(a, b) for a in range(first.size) for b in range(second.size)]
                for _ in range(6):
                    position = tuple(source.choice(entries) for _ in range(k))
                    found.append(is_sound(first, second, position))
                    self.assertIs(found[-1], told_sound(first, second, position))
        self.assertGreater(min(found.count(True), found.count(False)), 300)

    def test_no_positions(self):
        for value in NO_POSITIONS:
            with self.subTest(value):
                self.assertIs(is_sound(LINE, LINE, value), False)
                self.assertRaises(BadArgument, length, LINE, LINE, value)


class TestErrors(unittest.TestCase):
    def test_not_comparable(self):
        plain = Structure(2, [("e", 2, [])])
        for other in [Structure(2, []), Structure(2, [("f", 2, [])]), Structure(2, [("e", 1, [])]),
                      Structure(2, [("e", 2, []), ("p", 1, [])])]:
            for first, second in [(plain, other), (other, plain)]:
                for function, rest in [(is_sound, ((None,),)), (is_sound, (None,)), (is_keeping, (1, [])), (is_keeping, (1, None)),
                                       (length, ((None,),)), (keeping_table, (1,)), (parting, (3,))]:
                    self.assertRaises(NotFitting, function, first, second, *rest)
                for k in NO_PEBBLES:
                    for function in [keeping_table, parting]:
                        self.assertRaises(BadArgument, function, first, second, k)
                    self.assertRaises(BadArgument, is_keeping, first, second, k, [])
                for value in NO_POSITIONS[:10]:
                    self.assertRaises(BadArgument, length, first, second, value)

    def test_pebbles(self):
        for k in NO_PEBBLES:
            self.assertRaises(BadArgument, keeping_table, LINE, LINE, k)
            self.assertRaises(BadArgument, parting, LINE, LINE, k)
            self.assertRaises(BadArgument, is_keeping, LINE, LINE, k, [(None,)])
            self.assertRaises(BadArgument, is_keeping, LINE, LINE, k, None)

    def test_too_large(self):
        # 1 + 62 squared is 3969, 1 + 63 squared 4096; 1 + 14 to the power of 3 is 3375, 1 + 15 4096.
        for first, second, k, large in [(2, 16, 2, False), (7, 9, 2, True), (6, 10, 2, False), (8, 8, 2, True), (16, 16, 1, False),
                                        (4, 16, 2, True), (2, 7, 3, False), (3, 5, 3, True), (1, 14, 3, False), (1, 15, 3, True),
                                        (4, 4, 3, True), (1, 16, 2, False), (4, 15, 2, False)]:
            structures = Structure(first, []), Structure(second, [])
            for one, other in [structures, structures[::-1]]:
                with self.subTest(first=first, second=second, k=k):
                    if large:
                        self.assertRaises(TooLarge, length, one, other, (None,) * k)
                        self.assertRaises(TooLarge, length, one, other, ((0, 0),) * k)
                        self.assertRaises(TooLarge, keeping_table, one, other, k)
                        self.assertRaises(TooLarge, parting, one, other, k)
                    else:
                        length(one, other, (None,) * k)
                        keeping_table(one, other, k)
                    # The test functions never raise it.
                    self.assertIs(is_sound(one, other, (None,) * k), True)
                    self.assertIs(is_keeping(one, other, k, [(None,) * k]), False)
        other = Structure(16, [("e", 1, [])])
        self.assertRaises(NotFitting, keeping_table, Structure(16, []), other, 2)
        self.assertRaises(BadArgument, keeping_table, Structure(16, []), other, True)


class TestLengths(unittest.TestCase):
    def test_known(self):
        # Sets of different sizes are told apart by as many pebbles as the larger one has elements.
        sets = [Structure(size, []) for size in range(1, 5)]
        self.assertEqual(length(sets[0], sets[1], (None, None)), 2)
        self.assertEqual(length(sets[0], sets[1], (None,)), None)
        self.assertEqual(length(sets[1], sets[2], (None,) * 2), None)
        self.assertEqual(length(sets[1], sets[2], (None,) * 3), 3)
        self.assertEqual(length(sets[2], sets[3], (None,) * 3), None)
        self.assertEqual(length(cycle(3), line(3), (None,)), None)
        self.assertEqual(length(cycle(3), line(3), (None, None)), 2)
        self.assertEqual(length(cycle(3), cycle(4), (None, None)), 2)
        self.assertEqual(length(line(3), line(4), (None, None)), 2)
        self.assertEqual(length(line(4), line(5), (None, None)), 3)
        self.assertEqual(length(line(6), line(7), (None, None)), 4)
        self.assertEqual(length(line(3), line(3), ((0, 1), None)), 1)
        self.assertEqual(length(line(3), line(3), ((0, 1), (1, 1))), 0)

    def test_against_the_reckoning(self):
        source = random.Random(22)
        seen = set()
        for first, second in many_pairs(source, 120):
            for k in [1, 2]:
                told = told_lengths(first, second, k)
                positions = list(told)
                for position in source.sample(positions, min(6, len(positions))) + [(None,) * k]:
                    self.assertEqual(length(first, second, position), told[position])
                    seen.add(told[position])
        self.assertTrue({0, 1, 2, None} <= seen, seen)

    def test_three_pebbles(self):
        source = random.Random(23)
        for first, second in many_pairs(source, 12, 2):
            told = told_lengths(first, second, 3)
            for position in source.sample(list(told), min(10, len(told))) + [(None,) * 3]:
                self.assertEqual(length(first, second, position), told[position])

    def test_lines_and_cycles(self):
        for first, second in [(line(4), line(5)), (line(5), line(6)), (cycle(4), cycle(5)), (line(6), cycle(6))]:
            told = told_lengths(first, second, 2)
            for position in [(None, None), ((0, 0), None), ((1, 1), (0, 0)), ((2, 2), (1, 1)), ((3, 3), (2, 1))]:
                self.assertEqual(length(first, second, position), told[position])

    def test_renamed(self):
        source = random.Random(24)
        for first, _ in many_pairs(source, 60, 4):
            second = first.renamed(source.sample(range(first.size), first.size))
            for k in [1, 2]:
                self.assertIs(length(first, second, (None,) * k), None)
                self.assertIs(parting(first, second, k), None)


class TestKeeping(unittest.TestCase):
    def test_table_against_the_reckoning(self):
        source = random.Random(25)
        kept = 0
        for first, second in many_pairs(source, 120):
            for k in [1, 2]:
                told = told_lengths(first, second, k)
                expected = [position for position in told if told[position] is None]
                found = keeping_table(first, second, k)
                if told[(None,) * k] is None:
                    kept += 1
                    self.assertEqual(found, sorted(expected, key=lambda position: [entry or (-1, -1) for entry in position]))
                    self.assertIs(type(found), list)
                    self.assertIs(is_keeping(first, second, k, found), True)
                    self.assertTrue(told_keeping(first, second, k, found))
                else:
                    self.assertIsNone(found)
        self.assertGreater(kept, 60)

    def test_order(self):
        found = keeping_table(Structure(1, []), Structure(1, []), 2)
        self.assertEqual(found, [(None, None), (None, (0, 0)), ((0, 0), None), ((0, 0), (0, 0))])
        found = keeping_table(Structure(2, []), Structure(2, []), 1)
        self.assertEqual(found, [(None,), ((0, 0),), ((0, 1),), ((1, 0),), ((1, 1),)])

    def test_three_pebbles(self):
        for first, second in [(line(3), line(3)), (Structure(3, []), Structure(4, [])), (cycle(3), cycle(3))]:
            found = keeping_table(first, second, 3)
            told = told_lengths(first, second, 3)
            self.assertEqual(sorted(found, key=str), sorted([position for position in told if told[position] is None], key=str))
            self.assertIs(is_keeping(first, second, 3, found), True)

    def test_changed_tables(self):
        source = random.Random(26)
        answers = []
        for first, second in many_pairs(source, 60):
            table = keeping_table(first, second, 2)
            if table is None:
                continue
            mixed = source.sample(table, len(table)) + source.sample(table, 1)
            before = copy.deepcopy(mixed)
            self.assertIs(is_keeping(first, second, 2, mixed), True)
            self.assertEqual(mixed, before)
            for position in source.sample(table, min(4, len(table))):
                less = [other for other in mixed if other != position]
                answers.append(is_keeping(first, second, 2, less))
                self.assertIs(answers[-1], told_keeping(first, second, 2, less))
            others = [position for position in told_positions(first, second, 2) if position not in table]
            for position in source.sample(others, min(4, len(others))):
                self.assertIs(is_keeping(first, second, 2, mixed + [position]), False)
            self.assertIs(is_keeping(first, second, 2, table[1:]), False)
        # A smaller table may still be one.
        self.assertGreater(min(answers.count(True), answers.count(False)), 5)

    def test_smaller_tables(self):
        one, two = Structure(1, []), Structure(2, [])
        self.assertIs(is_keeping(two, two, 1, [(None,), ((0, 0),), ((1, 1),)]), True)
        self.assertIs(is_keeping(two, two, 1, [(None,), ((0, 0),), ((1, 0),)]), False)
        self.assertIs(is_keeping(two, two, 1, [(None,), ((0, 0),), ((0, 1),)]), False)
        self.assertIs(is_keeping(two, two, 1, [((0, 0),), ((1, 1),)]), False)
        self.assertIs(is_keeping(two, two, 1, [(None,)]), False)
        self.assertIs(is_keeping(one, two, 1, [(None,), ((0, 0),), ((0, 1),)]), True)
        self.assertIs(is_keeping(one, one, 2, keeping_table(one, one, 1)), False)

    def test_anything(self):
        table = keeping_table(LINE, LINE, 1)
        self.assertIs(is_keeping(LINE, LINE, 1, table), True)
        for value in [None, 0, True, "table", (), {}, [], tuple(table), {position: True for position in table}, [None], [table]]:
            self.assertIs(is_keeping(LINE, LINE, 1, value), False)
        for value in NO_POSITIONS + [((0, 0), None), (None, None)]:
            self.assertIs(is_keeping(LINE, LINE, 1, table + [value]), False)

    def test_new_lists(self):
        found = keeping_table(LINE, LINE, 1)
        found.clear()
        self.assertEqual(len(keeping_table(LINE, LINE, 1)), 10)


if __name__ == "__main__":
    unittest.main()
