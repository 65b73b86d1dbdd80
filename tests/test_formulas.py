import copy
import unittest

from samples import FALSE
from samples import KINDS
from samples import TRUE
from samples import X
from samples import many_made
from samples import nested
from samples import told_agree
from samples import with_parts
from sayso import formulas
from sayso.errors import BadFormula
from sayso.formulas import check_formula
from sayso.formulas import depth
from sayso.formulas import parts

NAMES = ("a", "b", "c", "d", "f", "g", "h", "i", "j", "k")
FUNCTIONS = [formulas.check_formula, formulas.free, formulas.symbols, formulas.parts, formulas.depth, formulas.rank,
             formulas.width, formulas.is_first_order, formulas.format_formula,
             lambda formula: formulas.positive(formula, "r")]


def rel(name, *variables):
    return ("rel", name, variables)


class FormulaCase(unittest.TestCase):
    def good(self, formula):
        with self.subTest(repr(formula)[:200]):
            self.assertIsNone(check_formula(formula))

    def bad(self, formula):
        for function in FUNCTIONS:
            with self.assertRaises(BadFormula):
                function(formula)


class TestKinds(FormulaCase):
    def test_each_kind(self):
        for formula, _ in KINDS:
            before = copy.deepcopy(formula)
            self.good(formula)
            self.assertEqual(formula, before)

    def test_what_is_no_formula_at_all(self):
        for value in [None, True, False, 0, 1.5, "", "true", "x = x", b"x", [], {}, set(), object(), (), ((),), (None,),
                      (True,), (0, 1), ([],), ({},), (("rel",),), ["eq", "x", "x"], ("x",), ("",), ("true",), ("false",),
                      ("Eq", "x", "x"), ("equals", "x", "x"), (b"eq", "x", "x"), ("e", ("x",)), ("r",), BadFormula]:
            with self.subTest(repr(value)):
                self.bad(value)
                self.bad(("not", value))
                self.bad(("and", (X, value)))
                self.bad(("some", ("x",), value))
                self.bad(("lfp", "r", ("x",), value, ("x",)))
                self.bad(("tc", ("x", "y"), value, ("x", "x")))
                self.bad(("guess", "r", 1, value))

    def test_parts_too_many_or_too_few(self):
        for formula, _ in KINDS:
            with self.subTest(formula):
                self.bad(formula + (X,))
                self.bad(formula + ((),))
                self.bad(formula + ("x",))
                self.bad(formula[:-1])
                self.bad(formula[:1])
                self.bad(list(formula))

    def test_lists_in_the_place_of_tuples(self):
        for formula, _ in KINDS:
            for place, entry in enumerate(formula):
                if isinstance(entry, tuple):
                    self.bad(formula[:place] + (list(entry),) + formula[place + 1:])

    def test_other_things_in_each_place(self):
        for formula, _ in KINDS:
            for place in range(len(formula)):
                for thing in [None, True, 1.0, -1, 7, "and", "A", "", "a" * 13, [], {}, ["x"], (None,), ("and",), ("x", 1),
                              object()]:
                    # "or" with "and" in its place is a formula.
                    if place > 0 or thing != "and":
                        self.bad(formula[:place] + (thing,) + formula[place + 1:])


class TestBounds(FormulaCase):
    def test_rel(self):
        for count in range(7):
            self.good(("rel", "e", NAMES[:count]))
            self.good(("rel", "e", ("x",) * count))
        self.bad(("rel", "e", NAMES[:7]))
        self.bad(("rel", "e", ("x",) * 7))

    def test_joined(self):
        for word in ["and", "or"]:
            for count in [0, 1, 2, 39, 40]:
                self.good((word, (X,) * count))
            self.bad((word, (X,) * 41))
            self.bad((word, X))
            self.bad((word, X, X))
            self.bad((word,))

    def test_quantified(self):
        for word in ["some", "all"]:
            for count in range(1, 7):
                self.good((word, NAMES[:count], X))
            self.bad((word, (), X))
            self.bad((word, NAMES[:7], X))
            self.bad((word, ("x", "x"), X))
            self.bad((word, ("x", "y", "x"), X))
            self.bad((word, "x", X))
            self.bad((word, "xy", X))

    def test_fixed_points(self):
        for word in ["lfp", "pfp"]:
            for count in range(1, 7):
                self.good((word, "r", NAMES[:count], X, ("x",) * count))
                self.good((word, "r", NAMES[:count], X, NAMES[:count]))
                self.bad((word, "r", NAMES[:count], X, ("x",) * (count - 1)))
                self.bad((word, "r", NAMES[:count], X, ("x",) * (count + 1)))
            self.bad((word, "r", (), X, ()))
            self.bad((word, "r", NAMES[:7], X, NAMES[:7]))
            self.bad((word, "r", ("x", "x"), X, ("x", "y")))
            self.bad((word, "not", ("x",), X, ("x",)))
            self.good((word, "x", ("x",), X, ("x",)))

    def test_closures(self):
        for count in range(11):
            formula = ("tc", NAMES[:count], X, ("x",) * count)
            if count in (2, 4, 6, 8):
                self.good(formula)
            else:
                self.bad(formula)
        self.bad(("tc", ("x", "x"), X, ("x", "y")))
        self.bad(("tc", ("x", "y"), X, ("x",)))
        self.bad(("tc", ("x", "y"), X, ("x", "y", "x", "y")))

    def test_guesses(self):
        for arity in range(4):
            self.good(("guess", "r", arity, X))
        for arity in [-1, 4, 10 ** 5000, -10 ** 5000, True, False, None, "1", 1.0, (1,)]:
            self.bad(("guess", "r", arity, X))
        self.bad(("guess", "r", ("x",), X))

    def test_parts(self):
        for count in [1, 2, 3, 40, 41, 42, 43, 500, 1641, 1999, 2000]:
            self.assertEqual(parts(with_parts(count)), count)
        self.bad(with_parts(2001))
        self.bad(("not", with_parts(2000)))
        self.good(("not", with_parts(1999)))

    def test_depth(self):
        for levels in [1, 2, 39, 40]:
            self.assertEqual(depth(nested(levels)), levels)
        self.bad(nested(41))
        self.bad(nested(42))
        self.bad(("some", ("x",), nested(40)))
        formula = ("rel", "r", ("x",))
        for _ in range(39):
            formula = ("lfp", "r", ("x",), formula, ("x",))
        self.good(formula)
        self.bad(("lfp", "r", ("x",), formula, ("x",)))

    def test_far_too_deep_and_far_too_large(self):
        self.bad(nested(200000))
        formula = X
        for _ in range(39):
            formula = ("and", (formula,) * 40)
        self.bad(formula)
        self.bad(("and", (X,) * 1000000))
        self.bad(("rel", "e", ("x",) * 1000000))
        self.bad(("some", ("x",) * 1000000, X))
        args = ("x",)
        for _ in range(100000):
            args = (args,)
        self.bad(("rel", "e", args))
        self.bad(("some", args, X))
        self.bad(args)
        self.bad(("rel", args, ()))
        self.bad((args, "x", ()))


class TestArities(FormulaCase):
    def test_symbols_have_one_arity(self):
        self.good(("and", (rel("e", "x", "y"), ("not", rel("e", "x", "x")))))
        self.bad(("and", (rel("e", "x", "y"), rel("e", "x"))))
        self.bad(("and", (rel("e"), ("some", ("x",), ("or", (TRUE, rel("e", "x")))))))
        self.bad(("guess", "r", 1, ("and", (rel("e"), rel("e", "x")))))

    def test_bound_names_have_the_told_arity(self):
        for word in ["lfp", "pfp"]:
            self.good((word, "r", ("x", "y"), rel("r", "x", "y"), ("x", "x")))
            for bad in [rel("r"), rel("r", "x"), rel("r", "x", "x", "x"), ("or", (rel("r", "x", "y"), rel("r", "x")))]:
                self.bad((word, "r", ("x", "y"), bad, ("x", "x")))
                self.bad((word, "r", ("x", "y"), ("or", (("some", ("z",), bad),)), ("x", "x")))
        for arity in range(4):
            for count in range(5):
                formula = ("guess", "r", arity, ("not", rel("r", *NAMES[:count])))
                if count == arity:
                    self.good(formula)
                else:
                    self.bad(formula)

    def test_the_innermost_binding_counts(self):
        self.good(("guess", "r", 1, ("and", (rel("r", "x"), ("guess", "r", 2, rel("r", "x", "y"))))))
        self.bad(("guess", "r", 1, ("and", (rel("r", "x"), ("guess", "r", 2, rel("r", "x"))))))
        self.bad(("guess", "r", 2, ("and", (rel("r", "x"), ("guess", "r", 1, rel("r", "x"))))))
        self.good(("lfp", "r", ("x",), ("pfp", "r", ("x", "y"), ("not", rel("r", "x", "y")), ("x", "x")), ("x",)))
        self.good(("lfp", "r", ("x",), ("not", ("lfp", "r", ("y",), rel("r", "y"), ("x",))), ("x",)))
        self.bad(("lfp", "r", ("x",), ("lfp", "r", ("y",), ("not", rel("r", "y")), ("x",)), ("x",)))

    def test_bound_here_and_a_symbol_there(self):
        self.good(("and", (("guess", "r", 1, rel("r", "x")), rel("r", "x", "y"))))
        self.good(("and", (rel("r"), ("lfp", "r", ("x",), rel("r", "x"), ("y",)), rel("r"))))
        self.bad(("and", (rel("r"), ("lfp", "r", ("x",), rel("r", "x"), ("y",)), rel("r", "x"))))
        self.good(("and", (("guess", "r", 1, rel("r", "x")), ("guess", "r", 2, rel("r", "x", "y")))))


class TestPositive(FormulaCase):
    def lfp(self, body):
        return ("lfp", "r", ("x",), body, ("x",))

    def test_even_and_odd(self):
        formula = rel("r", "x")
        for count in range(6):
            if count % 2 == 0:
                self.good(self.lfp(formula))
                self.good(self.lfp(("and", (formula, rel("e", "x")))))
            else:
                self.bad(self.lfp(formula))
                self.bad(self.lfp(("and", (rel("r", "x"), formula))))
            formula = ("not", ("some", ("y",), formula))
        self.good(self.lfp(("not", rel("e", "x"))))

    def test_each_kind_between(self):
        inside = rel("r", "x")
        for between in [lambda f: ("and", (f,)), lambda f: ("or", (FALSE, f)), lambda f: ("some", ("x",), f),
                        lambda f: ("all", ("x",), f), lambda f: ("lfp", "s", ("x",), f, ("x",)),
                        lambda f: ("tc", ("x", "y"), f, ("x", "x")), lambda f: ("guess", "s", 1, f)]:
            self.good(self.lfp(between(inside)))
            self.bad(self.lfp(between(("not", inside))))
            self.bad(self.lfp(("not", between(inside))))
            self.good(self.lfp(("not", between(("not", inside)))))

    def test_pfp(self):
        self.bad(self.lfp(("pfp", "s", ("x",), rel("r", "x"), ("x",))))
        self.bad(self.lfp(("pfp", "s", ("x",), ("not", ("not", rel("r", "x"))), ("x",))))
        self.bad(self.lfp(("not", ("pfp", "s", ("x",), ("not", rel("r", "x")), ("x",)))))
        self.bad(self.lfp(("pfp", "s", ("x",), ("some", ("y",), ("lfp", "t", ("x",), rel("r", "x"), ("x",))), ("x",))))
        self.good(self.lfp(("pfp", "s", ("x",), ("not", rel("s", "x")), ("x",))))
        self.good(self.lfp(("pfp", "r", ("x",), ("not", rel("r", "x")), ("x",))))
        self.good(self.lfp(("or", (rel("r", "x"), ("pfp", "s", ("x",), rel("e", "x"), ("x",))))))
        self.good(("pfp", "s", ("x",), self.lfp(("or", (rel("r", "x"), ("not", rel("s", "x"))))), ("x",)))

    def test_a_not_round_the_lfp_does_not_count(self):
        self.good(("not", self.lfp(rel("r", "x"))))
        self.good(("lfp", "s", ("x",), ("not", ("lfp", "r", ("x",), ("or", (rel("r", "x"), ("not", rel("s", "x")))),
                                                ("x",))), ("x",)))
        self.bad(("lfp", "s", ("x",), ("not", ("lfp", "r", ("x",), ("or", (rel("r", "x"), rel("s", "x"))), ("x",))),
                  ("x",)))

    def test_somewhere_within(self):
        bad = self.lfp(("not", rel("r", "x")))
        for formula in [("not", bad), ("and", (X, bad)), ("pfp", "s", ("x",), bad, ("x",)), ("guess", "r", 1, bad),
                        ("tc", ("x", "y"), bad, ("x", "x")), ("lfp", "s", ("x",), bad, ("x",))]:
            self.bad(formula)


class TestManyFormulas(FormulaCase):
    def test_arities_and_positive(self):
        count = 0
        for formula in many_made(3000):
            if told_agree(formula):
                count += 1
                self.assertIsNone(check_formula(formula))
            else:
                with self.assertRaises(BadFormula):
                    check_formula(formula)
        self.assertTrue(1000 < count < 2700, count)


if __name__ == "__main__":
    unittest.main()
