import random
import unittest

from fitting import FIRST_ORDER
from fitting import Maker
from fitting import made_structure
from fitting import symbol_names
from samples import FALSE
from samples import KINDS
from samples import TRUE
from samples import X
from samples import nested
from samples import own
from samples import told_depth
from samples import told_free
from samples import told_symbols
from samples import ways
from samples import with_parts
from sayso.errors import BadArgument
from sayso.errors import BadFormula
from sayso.errors import TooLarge
from sayso.formulas import check_formula
from sayso.formulas import is_first_order
from sayso.formulas import parts
from sayso.forms import prenex
from sayso.structures import Structure
from second import told_rows

P, Q = ("rel", "p", ("x",)), ("rel", "q", ())
BINDERS = [("lfp", "r", ("x",), P, ("x",)), ("pfp", "r", ("x",), P, ("x",)), ("tc", ("x", "y"), P, ("x", "x")), ("guess", "r", 1, P)]


def innermost(formula):
    while formula[0] in ("some", "all"):
        formula = formula[2]
    return formula


def bound_count(formula):
    return sum(len(own(part)) for part, _ in ways(formula))


def turns(count, word):
    """So many some and all by turns, one within the other, the outermost with this word."""
    formula = P
    for k in range(count):
        last = (count - 1 - k) % 2 == 0
        formula = (word if last else {"some": "all", "all": "some"}[word], ("x",), formula)
    return formula


def nots(levels):
    formula = P
    for _ in range(levels - 1):
        formula = ("not", formula)
    return formula


def filled(found, wanted):
    """Formulas to which others are added until they have so many parts together."""
    while sum(map(parts, found)) + 41 <= wanted:
        found += (("or", (P,) * 40),)
    rest = wanted - sum(map(parts, found))
    return found + ((("and", (P,) * (rest - 1)),) if rest else ())


class TestPrenex(unittest.TestCase):
    def check(self, formula):
        found = prenex(formula)
        check_formula(found)
        for part, _ in ways(found):
            self.assertLessEqual(len(own(part)), 6)
        words = {part[0] for part, _ in ways(innermost(found))}
        self.assertEqual(words & {"some", "all", "lfp", "pfp", "tc", "guess"}, set())
        self.assertLessEqual(set(told_free(found)), set(told_free(formula)))
        self.assertLessEqual(set(told_symbols(found)), set(told_symbols(formula)))
        return found

    def same(self, formula, structures):
        found = self.check(formula)
        variables = told_free(formula)
        for structure in structures:
            if structure.size ** (bound_count(formula) + len(variables)) < 3000:
                self.assertEqual(told_rows(found, structure, variables), told_rows(formula, structure, variables), formula)

    def test_without_some_and_all(self):
        for formula in [X, P, Q, TRUE, FALSE, ("not", P), ("and", (P, ("or", (Q, ("not", X)))))]:
            found = self.check(formula)
            self.assertEqual(innermost(found), found)

    def test_through_each_kind(self):
        source = random.Random(71)
        structures = [made_structure(source, size) for size in [1, 1, 2, 2, 3, 3]]
        for word in ["some", "all"]:
            one = (word, ("x",), P)
            for formula in [one, ("not", one), ("not", ("not", one)), ("and", (one, Q)), ("or", (one, Q)), ("and", (Q, one, one)),
                            ("or", (one, one, Q)), ("not", ("and", (one, ("not", one)))), ("and", (one, P)), ("or", (P, one)),
                            ("some", ("y",), one), ("all", ("x",), one), ("not", ("all", ("y",), ("not", one))),
                            ("all", ("x",), ("or", (P, one))), ("and", (one, ("some", ("x",), ("not", P))))]:
                self.same(formula, structures)
                self.same(("not", formula), structures)
                self.same(("or", (("all", ("x", "y"), ("rel", "e", ("x", "y"))), formula)), structures)

    def test_one_element(self):
        one = Structure(1, [("p", 1, []), ("q", 0, [()]), ("e", 2, []), ("x", 1, [(0,)])])
        for formula in [("or", (("some", ("x",), P), Q)), ("and", (("all", ("x",), P), Q)), ("some", ("x",), TRUE),
                        ("all", ("x",), FALSE), ("not", ("some", ("x",), FALSE)), ("or", (("some", ("x",), FALSE), Q))]:
            self.same(formula, [one])

    def test_made_formulas(self):
        source = random.Random(72)
        structures = [made_structure(source, size) for size in [1, 2, 2, 3]]
        for names in [["x", "y", "z", "e"], ["v1", "v2", "v3"]]:
            maker = Maker(source, FIRST_ORDER, names)
            for _ in range(300):
                self.same(maker.formula(source.randrange(2, 7), symbol_names()), structures)

    def test_blocks(self):
        nine = ("some", tuple("abc"), ("some", tuple("def"), ("some", tuple("ghi"), ("rel", "p", ("x",)))))
        self.assertEqual(bound_count(self.check(nine)), 9)
        found = self.check(("and", (nine, ("not", nine))))
        self.assertEqual(bound_count(found), 18)
        self.assertEqual(bound_count(self.check(("all", ("y",), nine))), 10)
        self.assertEqual(bound_count(self.check(("and", (("all", ("y",), nine), nine)))), 19)

    def test_at_the_bounds(self):
        single = tuple(turns(1, word) for word in ["some", "all"] * 10)
        for formula in [
            ("and", filled((nots(9), turns(8, "some"), turns(8, "all")) + single[:4], 199)),
            ("or", filled((turns(8, "all"), turns(8, "all"), nots(9)) + single[:4], 199)),
            ("and", filled(single + (nots(9),), 199)),
            ("not", ("or", filled((turns(7, "some"), nots(8), turns(7, "all")) + single[:6], 198))),
            ("not", ("and", filled(single + (nots(8),), 198))),
        ]:
            self.assertEqual((parts(formula), told_depth(formula), bound_count(formula)), (200, 10, 20))
            self.check(formula)

    def test_not_in_between(self):
        chain = P
        for k in range(4):
            chain = ("not", ("some", ("x",), chain))
        self.assertEqual(told_depth(chain), 9)
        self.check(("and", (chain,) * 5))
        self.same(chain, [Structure(2, [("p", 1, [(0,)])]), Structure(1, [("p", 1, [])])])

    def test_too_large_at_most_beyond(self):
        many = ("and", tuple(("some" if k % 2 else "all", ("x",), P) for k in range(40)))
        larger = [many, ("or", (many, many)), with_parts(2000), nested(40), ("and", (with_parts(1990), many[1][0])),
                  ("not", ("and", (with_parts(1900), many)))]
        for formula in larger:
            try:
                self.check(formula)
            except TooLarge:
                pass

    def test_bad_argument(self):
        for formula in BINDERS:
            for other in [formula, ("not", formula), ("and", (P, formula)), ("some", ("x",), formula), ("all", ("x",), ("or", (Q, formula)))]:
                with self.assertRaises(BadArgument):
                    prenex(other)
        for formula, _ in KINDS:
            if is_first_order(formula):
                self.check(formula)
            else:
                with self.assertRaises(BadArgument):
                    prenex(formula)

    def test_bad_formula(self):
        for formula in [None, (), ("not",), nested(41), with_parts(2001), ("some", (), P), ("guess", "r", 4, P),
                        ("lfp", "r", ("x",), ("not", ("rel", "r", ("x",))), ("x",))]:
            with self.assertRaises(BadFormula):
                prenex(formula)


if __name__ == "__main__":
    unittest.main()
