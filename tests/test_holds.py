import copy
import unittest

from samples import FALSE
from samples import TRUE
from samples import X
from samples import nested
from sayso.errors import BadArgument
from sayso.errors import BadFormula
from sayso.errors import NotFitting
from sayso.errors import TooLarge
from sayso.meaning import holds
from sayso.meaning import query
from sayso.structures import Structure

PATH = Structure(4, [("e", 2, [(0, 1), (1, 2), (2, 3)]), ("p", 1, [(2,)]), ("q", 0, [()]), ("o", 0, [])])
ONE = Structure(1, [("e", 2, []), ("p", 1, [(0,)])])


def rel(name, *variables):
    return ("rel", name, variables)


def neg(formula):
    return ("not", formula)


EDGE = rel("e", "x", "y")
REACHES = ("lfp", "r", ("x", "y"), ("or", (EDGE, ("some", ("z",), ("and", (rel("e", "x", "z"), rel("r", "z", "y")))))))


class TestKinds(unittest.TestCase):
    def rows(self, formula, variables, rows, structure=PATH):
        self.assertEqual(query(formula, structure, variables.split()), rows)
        for row in rows:
            self.assertIs(holds(formula, structure, dict(zip(variables.split(), row))), True)

    def test_rel(self):
        self.rows(EDGE, "x y", [(0, 1), (1, 2), (2, 3)])
        self.rows(rel("e", "y", "x"), "x y", [(1, 0), (2, 1), (3, 2)])
        self.rows(rel("e", "x", "x"), "x", [])
        self.rows(rel("q"), "", [()])
        self.rows(rel("o"), "", [])
        self.assertIs(holds(rel("o"), PATH, {}), False)
        self.assertIs(holds(EDGE, PATH, {"x": 1, "y": 0}), False)

    def test_rel_with_six_arguments(self):
        six = Structure(3, [("w", 6, [(0, 1, 2, 0, 1, 2)])])
        self.assertIs(holds(rel("w", *"abcabc"), six, {"a": 0, "b": 1, "c": 2}), True)
        self.assertIs(holds(rel("w", *"abcabc"), six, {"a": 0, "b": 1, "c": 1}), False)

    def test_eq_and_less(self):
        self.rows(("eq", "x", "y"), "x y", [(k, k) for k in range(4)])
        self.rows(("eq", "x", "x"), "x", [(k,) for k in range(4)])
        self.rows(("less", "x", "y"), "x y", [(j, k) for j in range(4) for k in range(4) if j < k])
        self.rows(("less", "x", "y"), "y x", [(k, j) for k in range(4) for j in range(4) if j < k])
        self.rows(("less", "x", "x"), "x", [])

    def test_not_and_or(self):
        self.rows(neg(rel("p", "x")), "x", [(0,), (1,), (3,)])
        self.rows(("and", (rel("p", "x"), EDGE)), "x y", [(2, 3)])
        self.rows(("or", (rel("p", "x"), ("eq", "x", "y"))), "x y", [(0, 0), (1, 1), (2, 0), (2, 1), (2, 2), (2, 3), (3, 3)])
        for first in [TRUE, FALSE]:
            for second in [TRUE, FALSE]:
                self.assertIs(holds(("and", (first, second)), PATH, {}), first == TRUE and second == TRUE)
                self.assertIs(holds(("or", (first, second)), PATH, {}), first == TRUE or second == TRUE)

    def test_without_parts(self):
        for structure in [PATH, ONE]:
            self.assertIs(holds(TRUE, structure, {}), True)
            self.assertIs(holds(FALSE, structure, {}), False)
            self.assertIs(holds(("some", ("x",), TRUE), structure, {}), True)
            self.assertIs(holds(("all", ("x",), FALSE), structure, {}), False)

    def test_some_and_all(self):
        self.rows(("some", ("y",), EDGE), "x", [(0,), (1,), (2,)])
        self.rows(("some", ("x",), EDGE), "y", [(1,), (2,), (3,)])
        self.rows(("all", ("y",), ("or", (("less", "x", "y"), ("eq", "x", "y")))), "x", [(0,)])
        self.rows(("some", ("x", "y"), ("and", (EDGE, rel("p", "y")))), "", [()])
        self.rows(("all", ("x", "y"), ("or", (neg(EDGE), ("less", "x", "y")))), "", [()])
        self.rows(("all", ("x", "y"), ("or", (EDGE, ("less", "x", "y")))), "", [])
        self.rows(("some", ("y",), ("all", ("x",), ("or", (("less", "x", "y"), ("eq", "x", "y"))))), "", [()])

    def test_some_with_six_variables(self):
        names = tuple("abcdef")
        chain = ("and", tuple(("less", one, two) for one, two in zip(names, names[1:])))
        for size in range(4, 8):
            self.assertIs(holds(("some", names, chain), Structure(size, []), {}), size >= 6)
            self.assertIs(holds(("all", names, neg(chain)), Structure(size, []), {}), size < 6)

    def test_lfp(self):
        found = [(j, k) for j in range(4) for k in range(4) if j < k]
        self.rows(REACHES + (("x", "y"),), "x y", found)
        self.rows(REACHES + (("a", "b"),), "a b", found)
        self.rows(REACHES + (("a", "b"),), "b a", [(k, j) for k in range(4) for j in range(k)])
        self.rows(("lfp", "r", ("x",), rel("r", "x"), ("x",)), "x", [])
        self.rows(("lfp", "r", ("x",), TRUE, ("x",)), "x", [(k,) for k in range(4)])
        self.rows(("lfp", "r", ("x",), ("or", (rel("p", "x"), ("some", ("y",), ("and", (EDGE, rel("r", "y")))))), ("x",)),
                  "x", [(0,), (1,), (2,)])

    def test_lfp_with_the_names_of_its_variables_outside(self):
        self.rows(REACHES + (("y", "x"),), "x y", [(k, j) for k in range(4) for j in range(k)])
        self.rows(REACHES + (("x", "x"),), "x", [])
        self.rows(REACHES + (("z", "z"),), "z", [])
        self.rows(("lfp", "r", ("x", "y"), ("eq", "x", "y"), ("x", "x")), "x", [(k,) for k in range(4)])

    def test_lfp_with_free_variables_within(self):
        step = ("or", (("eq", "y", "s"), ("some", ("x",), ("and", (EDGE, rel("r", "x"))))))
        self.rows(("lfp", "r", ("y",), step, ("t",)), "s t", [(j, k) for j in range(4) for k in range(4) if j <= k])
        self.rows(("lfp", "r", ("y",), ("less", "y", "s"), ("s",)), "s", [])

    def test_pfp_that_settles(self):
        inside = ("pfp", "r", ("x",), ("or", (rel("p", "x"), rel("r", "x"))), ("x",))
        self.rows(inside, "x", [(2,)])
        self.rows(("pfp", "r", ("x",), FALSE, ("x",)), "x", [])
        # It goes up to the whole path, and then to the path without its first point, where it stays.
        last = ("some", ("x",), ("and", (rel("r", "x"), ("all", ("y",), neg(("less", "x", "y"))))))
        grows = ("or", (neg(("some", ("y",), ("less", "y", "x"))), ("some", ("y",), ("and", (rel("e", "y", "x"), rel("r", "y"))))))
        whole = ("or", (("and", (neg(last), grows)), ("and", (last, ("some", ("y",), ("less", "y", "x"))))))
        self.rows(("pfp", "r", ("x",), whole, ("x",)), "x", [(1,), (2,), (3,)])

    def test_pfp_that_never_settles(self):
        self.rows(("pfp", "r", ("x",), neg(rel("r", "x")), ("x",)), "x", [])
        self.rows(("pfp", "r", ("x",), ("or", (rel("p", "x"), neg(rel("r", "x")))), ("x",)), "x", [])
        # The stages count in binary digits: the last one has all elements, and the empty one follows.
        below = ("all", ("y",), ("or", (neg(("less", "y", "x")), rel("r", "y"))))
        counts = ("or", (("and", (rel("r", "x"), neg(below))), ("and", (neg(rel("r", "x")), below))))
        self.rows(("pfp", "r", ("x",), counts, ("x",)), "x", [])
        full = ("all", ("y",), rel("r", "y"))
        self.rows(("pfp", "r", ("x",), ("or", (full, counts)), ("x",)), "x", [(k,) for k in range(4)])

    def test_pfp_with_free_variables_within(self):
        inside = ("pfp", "r", ("x",), ("or", (("and", (rel("p", "z"), ("eq", "x", "z"))), ("and", (neg(rel("p", "z")), neg(rel("r", "x")))))))
        self.rows(inside + (("z",),), "z", [(2,)])
        self.rows(inside + (("y",),), "y z", [(2, 2)])

    def test_tc(self):
        closure = ("tc", ("x", "y"), EDGE, ("x", "y"))
        self.rows(closure, "x y", [(j, k) for j in range(4) for k in range(4) if j <= k])
        self.rows(("tc", ("x", "y"), EDGE, ("y", "x")), "x y", [(j, k) for j in range(4) for k in range(4) if j >= k])
        self.rows(("tc", ("y", "x"), EDGE, ("x", "y")), "x y", [(j, k) for j in range(4) for k in range(4) if j >= k])
        self.rows(("tc", ("x", "y"), EDGE, ("x", "x")), "x", [(k,) for k in range(4)])
        self.rows(("tc", ("x", "y"), FALSE, ("a", "b")), "a b", [(k, k) for k in range(4)])
        self.rows(("tc", ("x", "y"), TRUE, ("a", "b")), "a b", [(j, k) for j in range(4) for k in range(4)])

    def test_tc_with_four_variables(self):
        both = ("and", (rel("e", "x1", "y1"), rel("e", "x2", "y2")))
        expected = [(a, b, a + k, b + k) for a in range(4) for b in range(4) for k in range(4) if max(a, b) + k < 4]
        self.rows(("tc", ("x1", "x2", "y1", "y2"), both, ("a", "b", "c", "d")), "a b c d", expected)
        self.rows(("tc", ("x1", "x2", "y1", "y2"), both, ("a", "a", "b", "b")), "a b", [(j, k) for j in range(4) for k in range(4) if j <= k])
        none = ("tc", ("x1", "x2", "y1", "y2"), FALSE, ("a", "b", "b", "a"))
        self.rows(none, "a b", [(k, k) for k in range(4)])

    def test_tc_with_six_and_eight_variables(self):
        for count in [3, 4]:
            names = tuple(f"x{k}" for k in range(2 * count))
            turns = ("and", tuple(("eq", names[k], names[count + (k + 1) % count]) for k in range(count)))
            told = ("tc", names, turns, ("a",) + ("b",) * (count - 1) + ("c",) * (count - 1) + ("d",))
            rows = [(a, b, c, d) for a in range(2) for b in range(2) for c in range(2) for d in range(2)
                    if (a, b) == (d, c) or a == b == c == d]
            self.rows(told, "a b c d", rows, Structure(2, []))

    def test_tc_with_free_variables_within(self):
        avoids = ("and", (EDGE, neg(("eq", "y", "z"))))
        self.rows(("tc", ("x", "y"), avoids, ("a", "b")), "a b z",
                  [(a, b, z) for a in range(4) for b in range(a, 4) for z in range(4) if not a < z <= b])
        self.rows(("tc", ("x", "y"), ("eq", "y", "a"), ("b", "a")), "a b", [(j, k) for j in range(4) for k in range(4)])

    def test_guess(self):
        self.assertIs(holds(("guess", "r", 0, rel("r")), PATH, {}), True)
        self.assertIs(holds(("guess", "r", 0, neg(rel("r"))), PATH, {}), True)
        self.assertIs(holds(("guess", "r", 0, ("and", (rel("r"), neg(rel("r"))))), PATH, {}), False)
        self.rows(("guess", "r", 1, ("and", (rel("r", "x"), neg(rel("r", "y"))))), "x y",
                  [(j, k) for j in range(4) for k in range(4) if j != k])
        every = ("all", ("x",), ("or", (rel("r", "x"), rel("p", "x"))))
        self.rows(("guess", "r", 1, ("and", (every, neg(rel("r", "x"))))), "x", [(2,)])

    def test_guess_of_two_colours(self):
        differ = ("all", ("x", "y"), ("or", (neg(EDGE), ("and", (("or", (rel("r", "x"), rel("r", "y"))),
                                                              neg(("and", (rel("r", "x"), rel("r", "y")))))))))
        for size in range(2, 7):
            ring = Structure(size, [("e", 2, [(k, (k + 1) % size) for k in range(size)])])
            self.assertIs(holds(("guess", "r", 1, differ), ring, {}), size % 2 == 0)

    def test_guess_of_larger_arities(self):
        order = ("and", (("all", ("x",), ("some", ("y",), rel("r", "x", "y"))), ("all", ("x",), neg(rel("r", "x", "x"))),
                         ("all", ("x", "y"), neg(("and", (rel("r", "x", "y"), rel("r", "y", "x")))))))
        for size in [1, 2, 3]:
            self.assertIs(holds(("guess", "r", 2, order), Structure(size, []), {}), size == 3)
        last = ("guess", "r", 3, ("all", ("x", "y", "z"), ("or", (rel("r", "x", "y", "z"), ("less", "x", "x")))))
        self.assertIs(holds(last, Structure(2, []), {}), True)
        self.assertIs(holds(("guess", "r", 3, neg(X)), Structure(2, []), {"x": 0}), False)

    def test_one_element(self):
        self.rows(("all", ("x", "y"), ("eq", "x", "y")), "", [()], ONE)
        self.rows(("some", ("x", "y"), ("less", "x", "y")), "", [], ONE)
        self.rows(REACHES + (("x", "x"),), "x", [], ONE)
        self.rows(("tc", tuple("abcdefgh"), EDGE, ("x",) * 8), "x y", [(0, 0)], ONE)
        self.rows(("pfp", "r", ("x",), neg(rel("r", "x")), ("x",)), "x", [], ONE)
        self.rows(("pfp", "r", tuple("abcdef"), TRUE, ("x",) * 6), "x", [(0,)], ONE)
        self.rows(("guess", "r", 3, ("and", (rel("p", "x"), rel("r", "x", "x", "x")))), "x", [(0,)], ONE)


class TestBoundAgain(unittest.TestCase):
    def rows(self, formula, variables, rows, structure=PATH):
        self.assertEqual(query(formula, structure, variables.split()), rows)

    def test_variables(self):
        inside = ("some", ("x",), rel("p", "x"))
        self.rows(("and", (inside, ("eq", "x", "y"))), "x y", [(k, k) for k in range(4)])
        self.rows(("all", ("x",), ("and", (inside, ("or", (("less", "x", "y"), ("eq", "x", "y")))))), "y", [(3,)])
        self.rows(("some", ("x",), ("and", (("all", ("x",), X), rel("e", "x", "y")))), "y", [(1,), (2,), (3,)])
        self.rows(("some", ("x",), ("and", (rel("p", "x"), ("some", ("x",), EDGE), neg(EDGE)))), "y", [(1,), (2,)])

    def test_variables_in_their_own_tc_lfp_and_pfp(self):
        third = ("some", ("x",), ("and", (rel("p", "x"), rel("e", "y", "x"))))
        self.rows(("tc", ("x", "y"), ("and", (EDGE, third)), ("x", "y")), "x y", [(0, 0), (0, 1), (1, 1), (2, 2), (3, 3)])
        point = ("or", (("and", (rel("p", "x"), ("some", ("x",), rel("o")))), ("some", ("x",), ("and", (rel("p", "x"), rel("e", "y", "x"))))))
        self.rows(("lfp", "r", ("x", "y"), point, ("x", "y")), "x y", [(k, 1) for k in range(4)])
        self.rows(("pfp", "r", ("y",), third, ("x",)), "x", [(1,)])

    def test_a_name_of_the_structure_that_is_bound(self):
        bound = ("guess", "p", 2, ("and", (rel("p", "x", "x"), neg(rel("p", "x", "y")))))
        three = Structure(3, [("p", 1, [(2,)])])
        self.rows(bound, "x y", [(j, k) for j in range(3) for k in range(3) if j != k], three)
        self.rows(("and", (bound, rel("p", "x"))), "x y", [(2, 0), (2, 1)], three)
        self.rows(("lfp", "e", ("x",), ("or", (rel("e", "x"), rel("p", "x"))), ("x",)), "x", [(2,)])

    def test_a_name_in_its_own_lfp(self):
        inner = ("lfp", "r", ("x",), ("or", (rel("p", "x"), ("some", ("y",), ("and", (EDGE, rel("r", "y")))))), ("y",))
        outer = ("lfp", "r", ("x", "y"), ("or", (("and", (inner, EDGE)), ("some", ("z",), ("and", (rel("r", "x", "z"), rel("r", "z", "y")))))), ("x", "y"))
        self.rows(outer, "x y", [(0, 1), (0, 2), (1, 2)])

    def test_a_name_in_its_own_pfp_and_guess(self):
        self.rows(("pfp", "r", ("x",), ("or", (rel("p", "x"), ("guess", "r", 0, ("and", (rel("r"), neg(rel("r"))))))), ("x",)), "x", [(2,)])
        self.rows(("guess", "r", 1, ("and", (rel("r", "x"), neg(("guess", "r", 1, neg(rel("r", "x")))), rel("r", "x")))), "x", [])
        self.rows(("guess", "r", 1, ("and", (rel("r", "x"), ("guess", "r", 1, neg(rel("r", "x"))), rel("r", "x")))), "x", [(k,) for k in range(4)])
        inner = ("pfp", "r", ("x",), neg(rel("r", "x")), ("x",))
        self.rows(("pfp", "r", ("x",), ("or", (inner, rel("p", "x"))), ("x",)), "x", [(2,)])

    def test_fixed_points_are_made_anew(self):
        # What the inner one found for one element of s must not be there for the next one.
        for word in ["lfp", "pfp"]:
            self.rows((word, "r", ("x",), ("or", (rel("r", "x"), ("eq", "x", "s"))), ("t",)), "s t", [(k, k) for k in range(4)])
        guessed = ("guess", "r", 1, ("and", (rel("r", "s"), ("all", ("x",), ("or", (neg(rel("r", "x")), ("eq", "x", "s")))), rel("r", "t"))))
        self.rows(guessed, "s t", [(k, k) for k in range(4)])
        # The greater s is, the earlier comes the only relation that will do, however they are counted.
        for one, other in [("s", "x"), ("x", "s")]:
            exactly = ("all", ("x",), ("or", (("and", (rel("r", "x"), neg(("less", one, other)))), ("and", (neg(rel("r", "x")), ("less", one, other))))))
            self.rows(("guess", "r", 1, exactly), "s", [(k,) for k in range(4)])
            self.rows(("guess", "r", 1, ("and", (exactly, rel("r", "t")))), "s t",
                      [(j, k) for j in range(4) for k in range(4) if (k <= j if one == "s" else k >= j)])

    def test_names_that_are_variables_too(self):
        self.rows(("some", ("e",), rel("e", "e", "p")), "p", [(1,), (2,), (3,)])
        self.rows(("lfp", "x", ("x",), ("or", (rel("p", "x"), ("some", ("p",), ("and", (rel("e", "p", "x"), rel("x", "p")))))), ("x",)),
                  "x", [(2,), (3,)])


class TestValues(unittest.TestCase):
    def test_values_stay(self):
        formula = ("some", ("x",), ("and", (rel("p", "x"), REACHES + (("x", "y"),))))
        for values in [{"y": 3}, {"y": 3, "x": 0, "z": 1}, {"y": 3, "x": None, "z": True, "w": [1], 3: 4, None: None, "r": {}}]:
            before = copy.deepcopy(values)
            self.assertIs(holds(formula, PATH, values), True)
            self.assertEqual(values, before)
            self.assertEqual(list(values), list(before))

    def test_further_values_have_no_influence(self):
        for value in [0, 3, 4, -1, None, True, "1", (), [0]]:
            self.assertIs(holds(("some", ("x",), rel("p", "x")), PATH, {"x": value, "a": value}), True)
            self.assertIs(holds(EDGE, PATH, {"x": 1, "y": 2, "z": value, "e": value}), True)

    def test_bad_values(self):
        for value in [4, -1, 99, None, True, False, "1", "", 1.0, (1,), [1], {}]:
            with self.subTest(repr(value)):
                for values in [{"x": value, "y": 1}, {"x": 1, "y": value}, {"x": value, "y": value}]:
                    with self.assertRaises(BadArgument):
                        holds(EDGE, PATH, values)

    def test_missing_values(self):
        for values in [{}, {"x": 0}, {"y": 0}, {"X": 0, "z": 1}]:
            with self.assertRaises(BadArgument):
                holds(EDGE, PATH, values)
        with self.assertRaises(BadArgument):
            holds(("and", (TRUE, FALSE, ("some", ("y",), EDGE))), PATH, {"y": 0})
        for args in [("x", "y"), ("y", "x"), ("x", "x")]:
            with self.assertRaises(BadArgument):
                holds(REACHES + (args,), PATH, {"y": 0})

    def test_structure_stays(self):
        before = copy.deepcopy(PATH.relations)
        holds(("guess", "p", 1, ("all", ("x",), rel("p", "x"))), PATH, {})
        query(REACHES + (("x", "y"),), PATH, ["x", "y"])
        self.assertEqual(PATH.relations, before)


class TestFits(unittest.TestCase):
    def test_not_fitting(self):
        for formula in [rel("f", "x"), rel("e", "x"), rel("e", "x", "x", "x"), rel("q", "x"), rel("p"),
                        ("and", (FALSE, rel("f"))), ("or", (TRUE, rel("f"))), ("some", ("x",), rel("x", "x")),
                        ("lfp", "r", ("x",), ("or", (rel("r", "x"), rel("s", "x"))), ("x",)),
                        ("and", (("guess", "r", 1, rel("r", "x")), rel("r", "x")))]:
            with self.subTest(formula):
                with self.assertRaises(NotFitting):
                    holds(formula, PATH, {"x": 0})
                with self.assertRaises(NotFitting):
                    query(formula, PATH, ["x"])

    def test_bound_names_need_not_be_there(self):
        self.assertIs(holds(("guess", "r", 1, rel("r", "x")), PATH, {"x": 0}), True)
        self.assertIs(holds(("guess", "q", 1, rel("q", "x")), PATH, {"x": 0}), True)

    def test_order_of_relations_does_not_matter(self):
        turned = Structure(PATH.size, PATH.relations[::-1])
        self.assertEqual(query(REACHES + (("x", "y"),), turned, ["x", "y"]), query(REACHES + (("x", "y"),), PATH, ["x", "y"]))


class TestOrderOfErrors(unittest.TestCase):
    large = ("some", tuple("abcdef"), ("some", tuple("abcdef"), rel("f", "x")))
    unfit = rel("f", "x")

    def test_bad_formula_first(self):
        for formula in [None, (), ("rel", "e"), ("rel", "and", ()), nested(41), ("not", None), ["eq", "x", "x"],
                        ("lfp", "r", ("x",), neg(rel("r", "x")), ("x",)), ("eq", "x", 1)]:
            for values in [{}, None, {"x": 9}]:
                with self.assertRaises(BadFormula):
                    holds(formula, PATH, values)
            for variables in [[], None, ["x", "x"], ("x",)]:
                with self.assertRaises(BadFormula):
                    query(formula, PATH, variables)

    def test_bad_argument_second(self):
        for formula in [self.unfit, self.large]:
            with self.assertRaises(BadArgument):
                holds(formula, PATH, {})
            with self.assertRaises(BadArgument):
                query(formula, PATH, [])

    def test_not_fitting_third(self):
        with self.assertRaises(NotFitting):
            holds(self.large, PATH, {"x": 0})
        with self.assertRaises(NotFitting):
            query(self.large, PATH, ["x"])
        with self.assertRaises(NotFitting):
            query(self.unfit, PATH, ["x", "a", "b", "c", "d", "g", "h", "i"])

    def test_too_large_last(self):
        fitting = Structure(4, [("f", 1, [])])
        with self.assertRaises(TooLarge):
            holds(self.large, fitting, {"x": 0})
        with self.assertRaises(TooLarge):
            query(self.large, fitting, ["x"])


if __name__ == "__main__":
    unittest.main()
