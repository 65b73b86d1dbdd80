import copy
import unittest

from sayso.errors import BadArgument
from sayso.errors import BadStructure
from sayso.errors import NotFitting
from sayso.structures import Structure
from sayso.structures import is_name

WORDS = ["and", "or", "not", "some", "all", "lfp", "pfp", "tc", "guess", "true", "false"]


class TestNames(unittest.TestCase):
    def test_names(self):
        for text in ["a", "z", "m", "abcdefghijkl", "a23456789012", "a0", "z9", "x1y2", "rel", "eq", "less"]:
            with self.subTest(text):
                self.assertIs(is_name(text), True)

    def test_length(self):
        self.assertIs(is_name(""), False)
        self.assertIs(is_name("a" * 12), True)
        self.assertIs(is_name("a" * 13), False)

    def test_other_signs(self):
        for text in ["1", "0a", "9z", "A", "aB", "a_b", "_a", "a b", " a", "a ", "a-b", "a\n", "a\x00", "a,", "`", "{",
                     "a`", "a{", "a/", "a:"]:
            with self.subTest(text):
                self.assertIs(is_name(text), False)

    def test_other_letters_and_figures(self):
        for text in ["\u00e9", "a\u00e9", "\u00df", "a\u0663", "a\u00b2", "\u03b1", "\uff41", "a\uff11", "a\u0301",
                     "\ud800"]:
            with self.subTest(repr(text)):
                self.assertIs(is_name(text), False)

    def test_words(self):
        self.assertEqual(len(WORDS), 11)
        for word in WORDS:
            with self.subTest(word):
                self.assertIs(is_name(word), False)
                for end in ["1", "a", "s"]:
                    self.assertIs(is_name(word + end), True)
                self.assertIs(is_name("a" + word), True)
                self.assertIs(is_name(word[:-1]), word[:-1] != "")

    def test_no_text(self):
        for value in [None, True, False, 0, 1, 1.0, b"a", ["a"], ("a",), {"a": 1}, {"a"}, object(), is_name]:
            with self.subTest(repr(value)):
                self.assertIs(is_name(value), False)


class TestStructure(unittest.TestCase):
    def bad(self, *told):
        with self.assertRaises(BadStructure):
            Structure(*told)

    def test_fields(self):
        structure = Structure(3, [("e", 2, [(1, 2), (0, 1), (1, 2)]), ("p", 1, ((2,),)), ("q", 0, [()])])
        self.assertEqual(structure.size, 3)
        self.assertEqual(structure.relations, [("e", 2, ((0, 1), (1, 2))), ("p", 1, ((2,),)), ("q", 0, ((),))])
        self.assertIsInstance(structure.relations, list)

    def test_sizes(self):
        for size in range(1, 17):
            self.assertEqual(Structure(size, []).size, size)
        for size in [0, 17, -1, 10 ** 5000, True, False, None, "3", 3.0, [3], (3,)]:
            self.bad(size, [])

    def test_number_of_relations(self):
        six = [(f"r{k}", k % 3, []) for k in range(6)]
        self.assertEqual(len(Structure(2, six).relations), 6)
        self.bad(2, six + [("s", 1, [])])

    def test_arities(self):
        for arity in range(7):
            rows = [(0,) * arity, (1,) * arity]
            self.assertEqual(Structure(2, [("r", arity, rows)]).relations, [("r", arity, tuple(sorted(set(rows))))])
        for arity in [-1, 7, 10 ** 5000, True, False, None, "1", 1.0]:
            self.bad(1, [("r", arity, [])])
        self.bad(2, [("r", True, [(1,)])])

    def test_room_of_a_relation(self):
        for size in range(1, 17):
            for arity in range(7):
                if size ** arity <= 4096:
                    Structure(size, [("r", arity, [])])
                else:
                    self.bad(size, [("r", arity, [])])

    def test_room_at_the_bound(self):
        for size, arity in [(16, 3), (8, 4), (4, 6)]:
            self.assertEqual(size ** arity, 4096)
            Structure(size, [("r", arity, [])])
        for size, arity in [(9, 4), (5, 6), (6, 5), (16, 4)]:
            self.bad(size, [("r", arity, [])])

    def test_order_and_duplicates(self):
        rows = [(a, b) for a in range(12) for b in range(12)]
        for given in [rows, rows[::-1], rows + rows, tuple(rows[::-1])]:
            self.assertEqual(Structure(12, [("e", 2, given)]).relations, [("e", 2, tuple(rows))])

    def test_arity_zero(self):
        self.assertEqual(Structure(2, [("q", 0, [])]).relations, [("q", 0, ())])
        self.assertEqual(Structure(2, [("q", 0, [(), ()])]).relations, [("q", 0, ((),))])
        self.bad(2, [("q", 0, [(0,)])])

    def test_bad_tuples(self):
        for row in [(), (0,), (0, 0, 0), (0, 2), (-1, 0), (0, True), (False, 0), (0, None), (0, 1.0), (0, "1"),
                    (0, [1]), (0, (1,)), [0, 1], "01", None, 0, {0: 1, 1: 1}]:
            with self.subTest(repr(row)):
                self.bad(2, [("e", 2, [row])])
                self.bad(2, [("e", 2, [(0, 1), row])])

    def test_bad_lists_of_tuples(self):
        for rows in [None, 0, "", "01", {}, {(0, 1)}, {(0, 1): 1}, iter([(0, 1)]), range(0)]:
            with self.subTest(repr(rows)):
                self.bad(2, [("e", 2, rows)])

    def test_names(self):
        self.bad(2, [("e", 2, []), ("e", 2, [])])
        self.bad(2, [("e", 2, []), ("p", 1, []), ("e", 1, [])])
        for name in ["", "E", "and", "a" * 13, None, 1, True, ("e",), ["e"]]:
            with self.subTest(repr(name)):
                self.bad(2, [(name, 2, [])])

    def test_bad_relations(self):
        for relation in [(), ("e",), ("e", 2), ("e", 2, [], []), ["e", 2, []], "e", None, 3, {"e": 2}]:
            with self.subTest(repr(relation)):
                self.bad(2, [relation])

    def test_relations_that_are_no_list(self):
        for relations in [(), (("e", 2, []),), None, "", {}, 0, {"e": 2}, set()]:
            with self.subTest(repr(relations)):
                self.bad(2, relations)

    def test_given_lists_stay(self):
        rows = [(1, 0), (0, 1), (1, 0)]
        relations = [("e", 2, rows)]
        before = copy.deepcopy(relations)
        structure = Structure(2, relations)
        self.assertEqual(relations, before)
        rows.append((1, 1))
        relations.append(("p", 1, []))
        self.assertEqual(structure.relations, [("e", 2, ((0, 1), (1, 0)))])
        self.assertEqual(structure.symbols(), [("e", 2)])

    def test_has(self):
        structure = Structure(3, [("e", 2, [(0, 1), (1, 1)]), ("q", 0, [()]), ("o", 0, []), ("p", 1, [(1,)])])
        self.assertIs(structure.has("e", (0, 1)), True)
        self.assertIs(structure.has("e", (1, 0)), False)
        self.assertIs(structure.has("q", ()), True)
        self.assertIs(structure.has("o", ()), False)

    def test_has_what_is_no_element(self):
        structure = Structure(3, [("e", 2, [(0, 1), (1, 1)]), ("p", 1, [(0,), (1,)])])
        for thing in [3, -1, 99, None, True, "1", 1.0, (), (1,), [1]]:
            with self.subTest(repr(thing)):
                self.assertIs(structure.has("e", (thing, 1)), False)
                self.assertIs(structure.has("e", (1, thing)), False)
                self.assertIs(structure.has("p", (thing,)), False)
        self.assertIs(structure.has("p", (False,)), False)

    def test_has_not_fitting(self):
        structure = Structure(3, [("e", 2, [(0, 1)])])
        for name, row in [("f", (0, 1)), ("e", ()), ("e", (0,)), ("e", (0, 1, 2)), ("and", ()), ("e", (7,)),
                          ("f", (None, True))]:
            with self.subTest(name=name, row=row):
                with self.assertRaises(NotFitting):
                    structure.has(name, row)

    def test_with_relation_in_place(self):
        structure = Structure(3, [("a", 1, [(0,)]), ("b", 2, []), ("c", 0, [])])
        changed = structure.with_relation("b", 2, [(2, 1), (0, 0), (2, 1)])
        self.assertEqual(changed.relations, [("a", 1, ((0,),)), ("b", 2, ((0, 0), (2, 1))), ("c", 0, ())])
        other = structure.with_relation("b", 0, ((),))
        self.assertEqual(other.relations, [("a", 1, ((0,),)), ("b", 0, ((),)), ("c", 0, ())])
        self.assertEqual(structure.relations, [("a", 1, ((0,),)), ("b", 2, ()), ("c", 0, ())])
        self.assertIsInstance(changed, Structure)
        self.assertEqual(changed.size, 3)

    def test_with_relation_at_the_end(self):
        structure = Structure(3, [("b", 1, [(0,)])])
        rows = [(1,), (0,)]
        changed = structure.with_relation("a", 1, rows)
        self.assertEqual(changed.relations, [("b", 1, ((0,),)), ("a", 1, ((0,), (1,)))])
        self.assertEqual(rows, [(1,), (0,)])
        self.assertEqual(structure.symbols(), [("b", 1)])
        same = structure.with_relation("b", 1, ((0,),))
        self.assertEqual(same, structure)
        self.assertIsNot(same, structure)

    def test_with_relation_bounds(self):
        six = Structure(2, [(f"r{k}", 1, []) for k in range(6)])
        with self.assertRaises(BadStructure):
            six.with_relation("s", 1, [])
        self.assertEqual(six.with_relation("r5", 0, [()]).symbols()[5], ("r5", 0))
        for told in [("and", 1, []), (None, 1, []), ("r0", 7, []), ("r0", True, []), ("r0", 1, [(2,)]),
                     ("r0", 1, [[0]]), ("r0", 1, None), ("r0", 1, [(0, 0)])]:
            with self.subTest(repr(told)):
                with self.assertRaises(BadStructure):
                    six.with_relation(*told)

    def test_symbols(self):
        structure = Structure(3, [("q", 0, []), ("e", 2, []), ("a", 1, [])])
        self.assertEqual(structure.symbols(), [("q", 0), ("e", 2), ("a", 1)])
        structure.symbols().clear()
        self.assertEqual(len(structure.symbols()), 3)
        self.assertEqual(Structure(1, []).symbols(), [])

    def test_equal(self):
        one = Structure(2, [("e", 2, [(0, 1), (1, 0)]), ("p", 1, [])])
        self.assertTrue(one == Structure(2, [("e", 2, [(1, 0), (0, 1), (1, 0)]), ("p", 1, ())]))
        self.assertFalse(one != Structure(2, [("e", 2, [(1, 0), (0, 1), (1, 0)]), ("p", 1, ())]))
        for other in [
            Structure(3, [("e", 2, [(0, 1), (1, 0)]), ("p", 1, [])]),
            Structure(2, [("p", 1, []), ("e", 2, [(0, 1), (1, 0)])]),
            Structure(2, [("e", 2, [(0, 1)]), ("p", 1, [])]),
            Structure(2, [("e", 2, [(0, 1), (1, 0)]), ("q", 1, [])]),
            Structure(2, [("e", 2, [(0, 1), (1, 0)]), ("p", 2, [])]),
            Structure(2, [("e", 2, [(0, 1), (1, 0)])]),
            None, 2, "2; e/2 0,1 1,0; p/1", one.relations, (2, one.relations), object(),
        ]:
            self.assertFalse(one == other)
            self.assertTrue(one != other)
            self.assertFalse(other == one)


class TestRenamed(unittest.TestCase):
    def setUp(self):
        self.structure = Structure(4, [("e", 2, [(0, 1), (1, 2), (3, 3)]), ("q", 0, [()]), ("p", 1, [(0,), (2,)])])

    def test_element_i_becomes_what_stands_at_i(self):
        renamed = Structure(3, [("e", 2, [(0, 1)]), ("p", 1, [(2,)])]).renamed([1, 2, 0])
        self.assertEqual(renamed.relations, [("e", 2, ((1, 2),)), ("p", 1, ((0,),))])
        self.assertEqual(self.structure.renamed([0, 1, 2, 3]), self.structure)

    def test_argument_stays(self):
        permutation = [3, 2, 1, 0]
        renamed = self.structure.renamed(permutation)
        self.assertEqual(permutation, [3, 2, 1, 0])
        self.assertEqual(renamed.relations, [("e", 2, ((0, 0), (2, 1), (3, 2))), ("q", 0, ((),)), ("p", 1, ((1,), (3,)))])

    def test_composition(self):
        first, second = [2, 0, 3, 1], [1, 0, 2, 3]
        both = [second[first[k]] for k in range(4)]
        self.assertNotEqual(both, [first[second[k]] for k in range(4)])
        self.assertEqual(self.structure.renamed(first).renamed(second), self.structure.renamed(both))

    def test_inverse(self):
        first = [2, 0, 3, 1]
        inverse = [first.index(k) for k in range(4)]
        self.assertNotEqual(self.structure.renamed(first), self.structure)
        self.assertEqual(self.structure.renamed(first).renamed(inverse), self.structure)

    def test_no_permutation(self):
        for permutation in [[], [0, 1, 2], [0, 1, 2, 3, 4], [0, 1, 2, 3, 3], [0, 1, 2, 2], [1, 2, 3, 4], [-1, 0, 1, 2],
                            [0, True, 2, 3], [False, 1, 2, 3], [0, 1, 2, None], [0, 1, 2, "3"], [0, 1, 2, 3.0],
                            [0, 1, 2, [3]], (0, 1, 2, 3), "0123", None, {0: 0, 1: 1, 2: 2, 3: 3}, range(4)]:
            with self.subTest(repr(permutation)):
                with self.assertRaises(BadArgument):
                    self.structure.renamed(permutation)


if __name__ == "__main__":
    unittest.main()
