"""Sentences that part two structures."""

import copy
import random
import unittest

from playing import cycle
from playing import line
from playing import many_pairs
from playing import told_lengths
from samples import own
from samples import told_rank
from samples import ways
from sayso.errors import TooLarge
from sayso.formulas import check_formula
from sayso.formulas import free
from sayso.games import keeping_table
from sayso.games import parting
from sayso.meaning import holds
from sayso.structures import Structure
from machining import rows_of


class TestParting(unittest.TestCase):
    def parts(self, first, second, k):
        """Check the sentence, if there is one, and return its rank, or None."""
        before = copy.deepcopy((first.relations, second.relations))
        found = parting(first, second, k)
        self.assertEqual((first.relations, second.relations), before)
        expected = told_lengths(first, second, k)[(None,) * k]
        self.assertIs(found is None, expected is None)
        self.assertIs(found is None, keeping_table(first, second, k) is not None)
        if found is None:
            return None
        check_formula(found)
        self.assertEqual(free(found), [])
        self.assertEqual(told_rank(found), expected)
        for part, _ in ways(found):
            self.assertIn(part[0], ["rel", "eq", "not", "and", "or", "some", "all"])
            self.assertLessEqual(len(own(part)), 1)
            variables = own(part) + (part[2] if part[0] == "rel" else part[1:] if part[0] == "eq" else ())
            self.assertTrue(set(variables) <= {f"v{at}" for at in range(1, k + 1)})
        self.assertIs(holds(found, first, {}), True)
        self.assertIs(holds(found, second, {}), False)
        return expected

    def test_known(self):
        self.assertEqual(self.parts(Structure(1, []), Structure(2, []), 2), 2)
        self.assertEqual(self.parts(Structure(2, []), Structure(1, []), 2), 2)
        self.assertEqual(self.parts(Structure(1, []), Structure(2, []), 1), None)
        self.assertEqual(self.parts(Structure(2, []), Structure(3, []), 3), 3)
        self.assertEqual(self.parts(cycle(3), line(3), 2), 2)
        self.assertEqual(self.parts(line(3), cycle(3), 2), 2)

    def test_rank_0(self):
        holding, failing = Structure(1, [("q", 0, [()])]), Structure(2, [("q", 0, [])])
        for k in [1, 2, 3]:
            self.assertEqual(parting(holding, failing, k), ("rel", "q", ()))
            self.assertEqual(parting(failing, holding, k), ("not", ("rel", "q", ())))

    def test_names_like_variables(self):
        first = Structure(2, [("v1", 1, [(0,)]), ("v2", 2, [(0, 1)])])
        second = Structure(2, [("v2", 2, [(1, 0)]), ("v1", 1, [(0,)])])
        self.assertEqual(self.parts(first, second, 2), 2)

    def test_made_pairs(self):
        source = random.Random(31)
        ranks = []
        for first, second in many_pairs(source, 250):
            ranks.append(self.parts(first, second, source.choice([1, 2, 2])))
        for rank in [None, 0, 1, 2]:
            self.assertIn(rank, ranks)

    def test_never_too_large_for_small_structures(self):
        source = random.Random(32)
        for _ in range(400):
            rows = [row for row in rows_of(3, 2) if source.random() < 0.5]
            first = Structure(3, [("e", 2, rows), ("f", 2, [row for row in rows_of(3, 2) if source.random() < 0.2])])
            name, arity, rows = first.relations[source.randrange(2)]
            second = first.with_relation(name, arity, list(set(rows) ^ {source.choice(rows_of(3, 2))}))
            self.parts(first, second, 2)

    def test_three_pebbles(self):
        source = random.Random(33)
        for first, second in many_pairs(source, 25, 2):
            self.parts(first, second, 3)
        self.assertEqual(self.parts(Structure(3, []), Structure(2, []), 3), 3)

    def test_larger_structures(self):
        for first, second, rank in [(line(4), line(5), 3), (line(6), line(7), 4), (cycle(5), line(5), 2)]:
            for one, other in [(first, second), (second, first)]:
                try:
                    self.assertEqual(self.parts(one, other, 2), rank)
                except TooLarge:
                    self.assertGreater(max(one.size, other.size), 4)

    def test_large_arities(self):
        first = Structure(2, [("t", 6, [(0, 0, 0, 1, 1, 0)])])
        second = Structure(2, [("t", 6, [(0, 0, 0, 1, 1, 1)])])
        self.assertEqual(self.parts(first, second, 2), 2)
        self.assertEqual(self.parts(first, second, 1), None)


if __name__ == "__main__":
    unittest.main()
