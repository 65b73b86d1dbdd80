import unittest

from samples import KINDS
from samples import TRUE
from samples import X
from samples import many_made
from samples import nested
from samples import told_agree
from samples import told_depth
from samples import told_free
from samples import told_positive
from samples import told_rank
from samples import told_symbols
from samples import told_width
from samples import ways
from samples import with_parts
from sayso.formulas import depth
from sayso.formulas import free
from sayso.formulas import is_first_order
from sayso.formulas import parts
from sayso.formulas import positive
from sayso.formulas import rank
from sayso.formulas import symbols
from sayso.formulas import width


def rel(name, *variables):
    return ("rel", name, variables)


class TestFree(unittest.TestCase):
    def test_kinds(self):
        told = ["x y", "", "x", "x y", "x y1", "x", "", "", "x", "x", "x", "x y", "", "", "a b", "a", "a", "x y", "", "and3"]
        for (formula, _), names in zip(KINDS, told, strict=True):
            self.assertEqual(free(formula), names.split())

    def test_ascending_and_single(self):
        self.assertEqual(free(rel("e", "z", "a", "z", "b10", "b9", "b")), ["a", "b", "b10", "b9", "z"])

    def test_a_new_list(self):
        formula = rel("e", "x")
        free(formula).append("y")
        symbols(formula).append("y")
        self.assertEqual(free(formula), ["x"])
        self.assertEqual(symbols(formula), [("e", 1)])

    def test_bound_several_times(self):
        inside = ("some", ("x",), rel("e", "x", "y"))
        self.assertEqual(free(("and", (rel("p", "x"), inside))), ["x", "y"])
        self.assertEqual(free(("some", ("x",), ("and", (inside, rel("p", "x"))))), ["y"])
        self.assertEqual(free(("all", ("y",), ("and", (inside, ("some", ("x", "y"), X))))), [])
        self.assertEqual(free(("some", ("x",), ("or", (("all", ("x",), X), ("eq", "x", "z"))))), ["z"])

    def test_arguments_stand_outside(self):
        self.assertEqual(free(("lfp", "r", ("x",), X, ("x",))), ["x"])
        self.assertEqual(free(("pfp", "r", ("x", "y"), rel("e", "z"), ("y", "w"))), ["w", "y", "z"])
        self.assertEqual(free(("tc", ("x", "y"), ("eq", "x", "z"), ("x", "x"))), ["x", "z"])
        self.assertEqual(free(("some", ("x",), ("tc", ("x", "y"), ("less", "x", "y"), ("x", "x")))), [])

    def test_names_of_relations_are_no_variables(self):
        self.assertEqual(free(("guess", "x", 1, rel("x", "x"))), ["x"])
        self.assertEqual(free(("some", ("x",), rel("x", "y"))), ["y"])
        self.assertEqual(free(("lfp", "x", ("y",), rel("x", "x"), ("z",))), ["x", "z"])


class TestSymbols(unittest.TestCase):
    def test_kinds(self):
        told = [[("e", 2)], [("e", 0)], [("e", 6)]] + [[]] * 13 + [[("e", 2)], [], [], []]
        for (formula, _), names in zip(KINDS, told, strict=True):
            self.assertEqual(symbols(formula), names)

    def test_ascending_and_single(self):
        formula = ("and", (rel("q"), rel("e", "x", "y"), rel("a2"), rel("e", "y", "y"), rel("a10", "x")))
        self.assertEqual(symbols(formula), [("a10", 1), ("a2", 0), ("e", 2), ("q", 0)])

    def test_bound_here_and_a_symbol_there(self):
        bound = ("guess", "r", 1, rel("r", "x"))
        self.assertEqual(symbols(bound), [])
        self.assertEqual(symbols(("and", (bound, rel("r", "x", "y")))), [("r", 2)])
        self.assertEqual(symbols(("lfp", "r", ("x",), ("or", (bound, rel("r", "x"), rel("s"))), ("x",))), [("s", 0)])
        self.assertEqual(symbols(("lfp", "s", ("x",), ("guess", "r", 2, ("and", (rel("s", "x"), rel("e")))), ("x",))),
                         [("e", 0)])

    def test_bound_within_one_another(self):
        inside = ("pfp", "r", ("x", "y"), rel("r", "x", "y"), ("x", "x"))
        self.assertEqual(symbols(("lfp", "r", ("x",), ("or", (inside, rel("r", "x"))), ("x",))), [])
        self.assertEqual(symbols(("or", (inside, rel("r", "x")))), [("r", 1)])

    def test_variables_bind_no_names(self):
        self.assertEqual(symbols(("some", ("e",), rel("e", "e"))), [("e", 1)])
        self.assertEqual(symbols(("lfp", "r", ("e",), rel("e", "e"), ("e",))), [("e", 1)])


class TestPositive(unittest.TestCase):
    def test_not(self):
        formula = ("and", (rel("r", "x"), X))
        for count in range(5):
            self.assertIs(positive(formula, "r"), count % 2 == 0)
            self.assertIs(positive(formula, "s"), True)
            formula = ("not", formula)

    def test_each_occurrence_counts(self):
        self.assertIs(positive(("or", (rel("r"), ("not", rel("r")))), "r"), False)
        self.assertIs(positive(("or", (rel("r"), ("not", rel("s")))), "r"), True)
        self.assertIs(positive(("or", (rel("r"), ("not", rel("s")))), "s"), False)

    def test_pfp(self):
        inside = ("pfp", "s", ("x",), rel("r", "x"), ("x",))
        self.assertIs(positive(inside, "r"), False)
        self.assertIs(positive(("not", inside), "r"), False)
        self.assertIs(positive(inside, "s"), True)
        self.assertIs(positive(("pfp", "r", ("x",), ("not", rel("r", "x")), ("x",)), "r"), True)

    def test_bound_in_between(self):
        bound = ("guess", "r", 1, ("not", rel("r", "x")))
        self.assertIs(positive(bound, "r"), True)
        self.assertIs(positive(("and", (bound, rel("r", "x"))), "r"), True)
        self.assertIs(positive(("and", (bound, ("not", rel("r", "x")))), "r"), False)
        self.assertIs(positive(("lfp", "s", ("x",), ("or", (rel("s", "x"), ("not", rel("r", "x")))), ("x",)), "r"), False)

    def test_what_does_not_occur(self):
        self.assertIs(positive(("not", X), "x"), True)
        self.assertIs(positive(("not", rel("e", "x")), "x"), True)


class TestNumbers(unittest.TestCase):
    def test_parts_and_depth(self):
        self.assertEqual((parts(X), depth(X)), (1, 1))
        self.assertEqual((parts(TRUE), depth(TRUE)), (1, 1))
        formula = ("and", (X, ("not", X), ("lfp", "r", ("x",), ("guess", "s", 1, ("all", ("x",), X)), ("x",)), X))
        self.assertEqual((parts(formula), depth(formula)), (9, 5))
        self.assertEqual((parts(with_parts(2000)), depth(nested(40))), (2000, 40))

    def test_rank_of_each_kind(self):
        told = [0] * 12 + [2, 1, 2, 1, 2, 0, 0, 1]
        for (formula, _), number in zip(KINDS, told, strict=True):
            self.assertEqual(rank(formula), number)

    def test_rank_within_one_another(self):
        formula, total = X, 0
        for word, count in [("some", 2), ("tc", 4), ("not", 0), ("all", 6), ("guess", 0), ("lfp", 3), ("and", 0),
                            ("pfp", 5), ("tc", 8), ("some", 1), ("or", 0)]:
            names = tuple("abcdfghi"[:count])
            formula = {
                "some": ("some", names, formula), "all": ("all", names, formula), "not": ("not", formula),
                "and": ("and", (X, formula, ("some", ("x",), X))), "or": ("or", (formula, X)),
                "tc": ("tc", names, formula, names), "guess": ("guess", "r", 3, formula),
                "lfp": ("lfp", "s", names, formula, names), "pfp": ("pfp", "t", names, formula, names),
            }[word]
            total += count
            self.assertEqual(rank(formula), total)

    def test_rank_beside_one_another(self):
        one = ("some", ("x", "y"), X)
        two = ("all", ("x", "y", "z"), X)
        self.assertEqual(rank(("and", (one, two, one))), 3)
        self.assertEqual(rank(("some", ("w",), ("and", (one, two)))), 4)
        self.assertEqual(rank(("some", ("x",), ("some", ("x",), X))), 2)

    def test_width(self):
        told = [2, 0, 1, 2, 2, 1, 0, 0, 1, 1, 1, 2, 2, 1, 4, 2, 3, 2, 0, 2]
        for (formula, _), number in zip(KINDS, told, strict=True):
            self.assertEqual(width(formula), number)
        self.assertEqual(width(("some", ("a", "b"), TRUE)), 2)
        self.assertEqual(width(("some", ("a", "b"), ("all", ("b", "a"), X))), 3)
        self.assertEqual(width(("guess", "r", 2, rel("r", "x", "y"))), 2)
        self.assertEqual(width(("lfp", "r", ("a",), TRUE, ("b",))), 2)
        self.assertEqual(width(("tc", ("a", "b"), TRUE, ("b", "c"))), 3)
        self.assertEqual(width(rel("x", "y")), 1)

    def test_first_order(self):
        for formula, _ in KINDS:
            told = formula[0] not in ("lfp", "pfp", "tc", "guess")
            if formula[:2] == ("some", ("some1",)):
                told = False
            self.assertIs(is_first_order(formula), told)
            self.assertIs(is_first_order(("not", formula)), told)
            self.assertIs(is_first_order(("or", (X, ("all", ("x",), formula)))), told)


class TestManyFormulas(unittest.TestCase):
    def test_as_told_by_the_ways(self):
        for formula in many_made(3000, seed=2):
            if not told_agree(formula):
                continue
            self.assertEqual(free(formula), told_free(formula))
            self.assertEqual(symbols(formula), told_symbols(formula))
            self.assertEqual(rank(formula), told_rank(formula))
            self.assertEqual(width(formula), told_width(formula))
            self.assertEqual(depth(formula), told_depth(formula))
            self.assertEqual(parts(formula), len(list(ways(formula))))
            words = [part[0] for part, _ in ways(formula)]
            self.assertIs(is_first_order(formula), not {"lfp", "pfp", "tc", "guess"} & set(words))
            for name in ["e", "r", "s", "x", "y"]:
                self.assertIs(positive(formula, name), told_positive(formula, name))


if __name__ == "__main__":
    unittest.main()
