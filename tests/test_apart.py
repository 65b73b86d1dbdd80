import random
import unittest

from fitting import ALL_KINDS
from fitting import Maker
from fitting import made_structure
from fitting import symbol_names
from samples import KINDS
from samples import X
from samples import nested
from samples import own
from samples import told_free
from samples import told_symbols
from samples import ways
from samples import with_parts
from sayso.errors import BadFormula
from sayso.formulas import check_formula
from sayso.forms import apart
from sayso.structures import Structure
from sayso.structures import is_name
from second import told_cost
from second import told_rows


def bound_ones(formula):
    return [variable for part, _ in ways(formula) for variable in own(part)]


def shape(formula, bound=()):
    """A formula with numbers for its bound variables, counted from the outside."""
    def told(variable):
        return variable if variable not in bound else len(bound) - bound[::-1].index(variable)

    word = formula[0]
    if word in ("eq", "less"):
        return (word, told(formula[1]), told(formula[2]))
    if word == "rel":
        return (word, formula[1], tuple(map(told, formula[2])))
    if word in ("not", "and", "or"):
        return (word, tuple(shape(part, bound) for part in (formula[1] if word != "not" else formula[1:])))
    within = bound + tuple(own(formula))
    if word in ("some", "all"):
        return (word, len(formula[1]), shape(formula[2], within))
    if word == "guess":
        return formula[:3] + (shape(formula[3], bound),)
    args = tuple(map(told, formula[-1]))
    return (word, formula[1] if word != "tc" else "", len(own(formula)), shape(formula[-2], within), args)


class TestApart(unittest.TestCase):
    def check(self, formula):
        found = apart(formula)
        check_formula(found)
        bound = bound_ones(found)
        self.assertEqual(len(bound), len(set(bound)))
        self.assertEqual(set(bound) & set(told_free(found)), set())
        self.assertEqual(len(bound), len(bound_ones(formula)))
        self.assertEqual(told_free(found), told_free(formula))
        self.assertEqual(told_symbols(found), told_symbols(formula))
        for variable in bound:
            self.assertTrue(is_name(variable))
        self.assertEqual(shape(found), shape(formula))
        return found

    def test_kinds(self):
        for formula, _ in KINDS:
            self.check(formula)

    def test_bound_twice(self):
        one = ("some", ("x",), ("rel", "p", ("x",)))
        self.check(("and", (one, one)))
        self.check(("all", ("x",), ("and", (one, ("rel", "p", ("x",))))))
        self.check(("all", ("x", "y"), ("some", ("y", "x"), ("rel", "e", ("x", "y")))))

    def test_bound_and_free(self):
        one = ("some", ("x",), ("rel", "e", ("x", "y")))
        found = self.check(("and", (one, ("rel", "p", ("x",)))))
        self.assertEqual(found[1][1], ("rel", "p", ("x",)))
        self.check(("some", ("y",), ("and", (one, ("rel", "e", ("x", "y"))))))

    def test_arguments_stand_outside(self):
        for formula in [("lfp", "r", ("x", "y"), ("rel", "r", ("y", "x")), ("y", "y")), ("tc", ("x", "y"), ("eq", "x", "y"), ("y", "x")),
                        ("pfp", "r", ("x",), ("not", ("rel", "r", ("x",))), ("x",))]:
            found = self.check(formula)
            self.assertEqual(found[-1], formula[-1])
            self.check(("some", ("x", "y"), formula))
            self.check(("some", ("x", "y"), ("and", (formula, formula))))

    def test_variables_of_their_own_lfp_pfp_and_tc(self):
        inside = ("some", ("x",), ("rel", "e", ("x", "y")))
        for formula in [("lfp", "r", ("x", "y"), inside, ("x", "y")), ("pfp", "r", ("y", "x"), inside, ("x", "y")),
                        ("tc", ("x", "y"), inside, ("y", "x"))]:
            self.check(formula)
            self.check(("all", ("y",), ("or", (formula, formula, inside))))

    def test_names_of_relations_stay(self):
        formula = ("guess", "x", 1, ("some", ("x",), ("and", (("rel", "x", ("x",)), ("some", ("x",), ("rel", "x", ("x",)))))))
        found = self.check(formula)
        self.assertEqual(found[1], "x")
        self.assertEqual({part[1] for part, _ in ways(found) if part[0] == "rel"}, {"x"})

    def test_names_that_the_program_makes(self):
        # The new names of a first run are the old ones of the next run, free and bound, inside and outside.
        one = ("some", ("x",), ("rel", "p", ("x",)))
        formula = ("and", (one,) * 30)
        made = bound_ones(apart(formula))
        for count in range(1, len(made) + 1, 7):
            free_ones = ("or", tuple(("rel", "p", (name,)) for name in made[:count]))
            found = self.check(("and", (formula, free_ones)))
            self.assertEqual(told_free(found), sorted(made[:count]))
            later = ("or", tuple(("all", (name,), ("rel", "p", (name,))) for name in made))
            self.check(("and", (formula, later, formula)))
            self.check(("and", (later, formula, free_ones)))
            self.check(("some", tuple(made[:6]), ("and", (later, formula, free_ones))))
        self.check(("and", (apart(formula), apart(formula), formula)))

    def test_long_names(self):
        names = ["a" * 12, "a" * 11 + "1", "z99999999999", "v99999999999", "x", "v1", "v0", "a0"]
        for name in names:
            one = ("some", (name,), ("rel", "p", (name,)))
            self.check(("and", (one, one, ("rel", "p", (name,)), one)))

    def test_many_variables(self):
        inside = ("and", (("some", tuple("abcdef"), X),) * 40)
        found = self.check(("or", (inside,) * 20 + (("rel", "e", tuple("abcdef")),)))
        self.assertEqual(len(set(bound_ones(found))), 20 * 40 * 6)

    def test_largest_formulas(self):
        self.check(with_parts(2000))
        deep = ("rel", "p", ("x",))
        for k in range(39):
            deep = ("lfp", "r", ("x", "y"), deep, ("y", "x")) if k % 2 else ("some", ("x",), deep)
        self.check(deep)

    def test_what_is_apart_may_stay(self):
        formula = ("some", ("x",), ("tc", ("y", "z"), ("rel", "e", ("y", "z")), ("x", "w")))
        self.assertEqual(shape(apart(formula)), shape(formula))

    def test_the_same_meaning(self):
        source = random.Random(61)
        for names in [["x", "y", "z", "e"], ["v1", "v2", "v3", "v4"], ["x", "v1", "v2", "x1"]]:
            maker = Maker(source, ALL_KINDS, names)
            for _ in range(200):
                formula = maker.formula(source.randrange(2, 7), symbol_names())
                found = self.check(formula)
                size = source.choice([1, 2, 3])
                if told_cost(formula, size) < 1500:
                    structure = made_structure(source, size)
                    variables = told_free(formula)
                    self.assertEqual(told_rows(found, structure, variables), told_rows(formula, structure, variables))

    def test_the_argument_stays(self):
        structure = Structure(2, [("p", 1, [(0,)])])
        formula = ("and", (("some", ("x",), ("rel", "p", ("x",))), ("rel", "p", ("x",))))
        apart(formula)
        self.assertEqual(formula, ("and", (("some", ("x",), ("rel", "p", ("x",))), ("rel", "p", ("x",)))))
        self.assertEqual(told_rows(apart(formula), structure, ["x"]), [(0,)])

    def test_bad_formulas(self):
        for formula in [None, (), ("some", ("x", "x"), X), nested(41), with_parts(2001), ("some", ["x"], X)]:
            with self.assertRaises(BadFormula):
                apart(formula)


if __name__ == "__main__":
    unittest.main()
