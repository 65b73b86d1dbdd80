import random
import unittest

from fitting import made_structure
from fitting import many_fitting
from samples import FALSE
from samples import KINDS
from samples import TRUE
from samples import X
from samples import nested
from samples import told_free
from samples import told_symbols
from samples import ways
from samples import with_parts
from sayso.errors import BadFormula
from sayso.errors import TooLarge
from sayso.formulas import check_formula
from sayso.formulas import depth
from sayso.formulas import parts
from sayso.forms import inward
from second import told_rows

P, Q = ("rel", "p", ("x",)), ("rel", "q", ())
# What "not" goes through, with what it becomes.
THROUGH = [
    (("not", P), P),
    (("and", (P, Q)), ("or", (("not", P), ("not", Q)))),
    (("or", (P, Q)), ("and", (("not", P), ("not", Q)))),
    (("some", ("x", "y"), P), ("all", ("x", "y"), ("not", P))),
    (("all", ("x",), P), ("some", ("x",), ("not", P))),
    (TRUE, FALSE),
    (FALSE, TRUE),
]
# What "not" stays before.
STOPS = [
    P, X, ("less", "x", "y"), ("lfp", "r", ("x",), ("rel", "r", ("x",)), ("x",)), ("pfp", "r", ("x",), P, ("x",)),
    ("tc", ("x", "y"), P, ("x", "x")), ("guess", "r", 1, P),
]


def neg(formula):
    return ("not", formula)


class TestInward(unittest.TestCase):
    def test_through(self):
        for formula, moved in THROUGH:
            self.assertEqual(inward(neg(formula)), moved)
            self.assertEqual(inward(formula), formula if formula != ("not", P) else formula)
            self.assertEqual(inward(neg(neg(formula))), formula)
            self.assertEqual(inward(neg(neg(neg(formula)))), moved)

    def test_stops(self):
        for formula in STOPS:
            self.assertEqual(inward(formula), formula)
            self.assertEqual(inward(neg(formula)), neg(formula))
            self.assertEqual(inward(neg(neg(formula))), formula)
            self.assertEqual(inward(neg(("and", (formula, Q)))), ("or", (neg(formula), neg(Q))))
            self.assertEqual(inward(neg(("all", ("x",), neg(formula)))), ("some", ("x",), formula))

    def test_each_pair(self):
        turned = {"and": "or", "or": "and", "some": "all", "all": "some"}

        def told(formula, negated):
            if formula[0] == "not":
                return told(formula[1], not negated)
            if formula[0] in ("and", "or"):
                found = (turned[formula[0]] if negated else formula[0], tuple(told(part, negated) for part in formula[1]))
                return found
            if formula[0] in ("some", "all"):
                return (turned[formula[0]] if negated else formula[0], formula[1], told(formula[2], negated))
            at = {"lfp": 3, "pfp": 3, "guess": 3, "tc": 2}.get(formula[0])
            found = formula if at is None else formula[:at] + (told(formula[at], False),) + formula[at + 1:]
            return neg(found) if negated else found

        rounds = [neg, lambda f: ("and", (f, Q)), lambda f: ("or", (Q, f, neg(f))), lambda f: ("some", ("x",), f),
                  lambda f: ("all", ("x", "z"), f), lambda f: ("lfp", "r", ("x",), f, ("z",)),
                  lambda f: ("pfp", "r", ("x",), f, ("z",)), lambda f: ("tc", ("x", "y"), f, ("x", "z")),
                  lambda f: ("guess", "r", 2, f)]
        for first in rounds:
            for second in rounds:
                for third in rounds:
                    formula = first(second(neg(third(neg(P)))))
                    self.assertEqual(inward(formula), told(formula, False))
                    self.assertEqual(inward(neg(formula)), told(formula, True))

    def test_within_what_binds_names(self):
        body = neg(("and", (neg(P), ("some", ("y",), Q))))
        moved = ("or", (P, ("all", ("y",), neg(Q))))
        for make in [lambda f: ("lfp", "r", ("x",), f, ("x",)), lambda f: ("pfp", "r", ("x",), f, ("x",)),
                     lambda f: ("tc", ("x", "y"), f, ("x", "x")), lambda f: ("guess", "r", 0, f)]:
            self.assertEqual(inward(make(body)), make(moved))
            self.assertEqual(inward(neg(make(body))), neg(make(moved)))
            self.assertEqual(inward(neg(neg(make(make(body))))), make(make(moved)))

    def test_nothing_is_left_to_do(self):
        for formula in [formula for formula, _ in KINDS] + many_fitting(500, 51, 10 ** 9, 2):
            moved = inward(formula)
            check_formula(moved)
            for part, _ in ways(moved):
                if part[0] == "not":
                    self.assertNotIn(part[1][0], ["not", "and", "or", "some", "all"])
            self.assertEqual(inward(moved), moved)
            self.assertEqual(told_free(moved), told_free(formula))
            self.assertEqual(told_symbols(moved), told_symbols(formula))

    def test_the_same_meaning(self):
        source = random.Random(52)
        for size in [1, 2, 3]:
            structure = made_structure(source, size)
            for formula in many_fitting(150, 53 + size, 3000, size):
                variables = told_free(formula)
                expected = told_rows(formula, structure, variables)
                self.assertEqual(told_rows(inward(formula), structure, variables), expected)

    def test_number_of_parts(self):
        # 1 + 1 + 40 + 40 * 24 parts become 1 + 40 + 2 * 40 * 24.
        wide = neg(("and", (("or", (X,) * 24),) * 40))
        self.assertEqual(parts(inward(wide)), 1961)
        wider = ("or", (wide, ("and", (X,) * 37)))
        self.assertEqual(parts(inward(wider)), 2000)
        for formula in [("or", (wide, ("and", (X,) * 38))), ("or", (wider, X)), neg(("or", (neg(wider), X)))]:
            self.assertLess(parts(formula), 2000)
            with self.assertRaises(TooLarge):
                inward(formula)
        self.assertEqual(parts(inward(neg(neg(wider)))), 2000)

    def test_largest_formulas(self):
        self.assertEqual(parts(inward(with_parts(2000))), 2000)
        self.assertEqual(parts(inward(neg(with_parts(1999)))), 1998 + 1)
        self.assertEqual(inward(nested(40)), FALSE)
        self.assertEqual(inward(nested(39)), TRUE)
        deep = X
        for _ in range(38):
            deep = ("some", ("x",), deep)
        self.assertEqual(depth(inward(neg(deep))), 40)
        self.assertEqual(depth(inward(("some", ("x",), deep))), 40)

    def test_bad_formulas(self):
        for formula in [None, (), neg(None), nested(41), with_parts(2001), neg(("and", [X])),
                        ("lfp", "r", ("x",), neg(("rel", "r", ("x",))), ("x",)), ("rel", "e", ["x"])]:
            with self.assertRaises(BadFormula):
                inward(formula)


if __name__ == "__main__":
    unittest.main()
