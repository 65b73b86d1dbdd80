import copy
import random
import unittest

from fitting import ALL_KINDS
from fitting import ARITIES
from fitting import FIRST_ORDER
from fitting import Maker
from fitting import made_structure
from fitting import symbol_names
from samples import FALSE
from samples import TRUE
from samples import X
from samples import binder
from samples import nested
from samples import told_depth
from samples import told_free
from samples import told_symbols
from samples import ways
from samples import with_parts
from sayso.errors import BadArgument
from sayso.errors import BadFormula
from sayso.errors import TooLarge
from sayso.formulas import check_formula
from sayso.formulas import depth
from sayso.formulas import parts
from sayso.forms import replaced
from sayso.structures import Structure
from second import told_cost
from second import told_rows


def rel(name, *variables):
    return ("rel", name, variables)


def occurrences(formula, name):
    """For each occurrence of a name, the names bound round it."""
    return [{outer[1] for outer in above if outer[0] in ("lfp", "pfp", "guess")} for part, above in ways(formula)
            if part[0] == "rel" and part[1] == name and binder(name, above) is None]


class TestMeaning(unittest.TestCase):
    def setUp(self):
        self.source = random.Random(81)
        self.structures = [made_structure(self.source, size) for size in [1, 2, 2, 3]]

    def same(self, formula, name, variables, body):
        """Check the symbols and the meaning, and count where the meaning is not that of the formula itself."""
        found = replaced(formula, name, variables, body)
        check_formula(found)
        self.assertLessEqual(set(told_free(found)), set(told_free(formula)))
        expected = {symbol for symbol in told_symbols(formula) if symbol[0] != name}
        if occurrences(formula, name):
            expected |= set(told_symbols(body))
        self.assertEqual(told_symbols(found), sorted(expected))
        changed = 0
        names = told_free(formula)
        for structure in self.structures:
            if told_cost(formula, structure.size) + told_cost(found, structure.size) + told_cost(body, structure.size) > 20000:
                continue
            new = structure.with_relation(name, len(variables), told_rows(body, structure, variables))
            rows = told_rows(formula, new, names)
            self.assertEqual(told_rows(found, structure, names), rows, (formula, name, variables, body))
            if dict(structure.symbols()).get(name) == len(variables):
                changed += rows != told_rows(formula, structure, names)
        return changed

    def test_by_hand(self):
        formula = ("some", ("z",), ("and", (rel("e", "x", "z"), ("not", rel("e", "z", "x")))))
        self.assertTrue(self.same(formula, "e", ("a", "b"), ("and", (rel("p", "a"), ("not", ("eq", "a", "b"))))))
        self.assertTrue(self.same(formula, "e", ("a", "b"), ("not", ("less", "b", "a"))))
        self.same(formula, "e", ("b", "a"), ("less", "a", "b"))
        self.same(formula, "e", ("x", "z"), ("less", "z", "x"))
        self.same(formula, "e", ("z", "x"), ("less", "z", "x"))
        self.same(rel("p", "x"), "p", ("y",), TRUE)
        self.same(rel("p", "x"), "p", ("x",), FALSE)

    def test_the_name_in_the_body_is_the_old_relation(self):
        formula = ("or", (rel("e", "x", "y"), ("some", ("x",), rel("e", "x", "x"))))
        turned = rel("e", "b", "a")
        self.assertTrue(self.same(formula, "e", ("a", "b"), turned))
        self.assertTrue(self.same(formula, "e", ("a", "b"), ("not", rel("e", "a", "b"))))
        longer = ("some", ("x",), ("and", (rel("e", "a", "x"), rel("e", "x", "b"))))
        self.assertTrue(self.same(formula, "e", ("a", "b"), longer))
        twice = replaced(replaced(formula, "e", ("a", "b"), turned), "e", ("a", "b"), turned)
        self.assertEqual(told_rows(twice, self.structures[3], ["x", "y"]), told_rows(formula, self.structures[3], ["x", "y"]))

    def test_the_old_relation_may_have_another_arity(self):
        formula = ("some", ("x",), ("and", (rel("e", "x"), ("not", ("eq", "x", "y")))))
        body = ("some", ("x",), rel("e", "a", "x"))
        self.same(formula, "e", ("a",), body)
        self.assertEqual(told_symbols(replaced(formula, "e", ("a",), body)), [("e", 2)])

    def test_a_name_that_is_bound(self):
        bound = ("guess", "p", 1, rel("p", "x"))
        self.assertTrue(self.same(("and", (bound, rel("p", "x"))), "p", ("y",), rel("e", "y", "y")))
        self.same(("or", (rel("p", "x"), ("lfp", "p", ("x",), ("or", (rel("p", "x"), rel("x", "x"))), ("x",)))), "p", ("y",), rel("q"))
        self.assertEqual(replaced(bound, "p", ("y",), rel("e", "y", "y")), bound)
        # The symbols of the body may be bound elsewhere, and the name may be bound within an lfp of it.
        elsewhere = ("and", (("guess", "e", 2, rel("e", "x", "x")), rel("p", "x")))
        self.same(elsewhere, "p", ("y",), rel("e", "y", "y"))
        inside = ("lfp", "r", ("x",), ("or", (rel("r", "x"), rel("p", "x"), ("guess", "p", 0, ("and", (rel("p"), ("not", rel("p"))))))), ("x",))
        self.assertTrue(self.same(inside, "p", ("y",), ("less", "y", "y")))

    def test_a_name_that_does_not_occur(self):
        for formula in [X, TRUE, rel("e", "x", "y"), ("some", ("p",), rel("e", "p", "x"))]:
            self.assertEqual(replaced(formula, "p", ("y",), rel("q")), formula)
            self.assertEqual(replaced(formula, "new", (), rel("other")), formula)
        self.assertEqual(told_symbols(replaced(rel("e", "x", "y"), "p", ("y",), rel("s"))), [("e", 2)])

    def test_a_name_that_the_structure_has_not(self):
        formula = ("some", ("x",), rel("new", "x", "y"))
        self.same(formula, "new", ("a", "b"), ("less", "a", "b"))
        self.same(formula, "new", ("a", "b"), ("some", ("x",), ("and", (rel("e", "a", "x"), rel("e", "x", "b")))))

    def test_variables_of_the_body_bound_in_the_formula(self):
        body = ("some", ("z",), ("and", (rel("e", "x", "z"), ("not", ("eq", "z", "y")))))
        for variables in [("x", "y"), ("y", "x")]:
            for args in ["xy", "yx", "xx", "zz", "xz", "zy"]:
                for wrap in [lambda f: ("some", ("x",), f), lambda f: ("all", ("y", "z"), f), lambda f: ("some", ("z", "x", "y"), f),
                             lambda f: ("tc", ("x", "z"), f, ("z", "y")), lambda f: ("lfp", "r", ("x",), ("or", (f, rel("r", "y"))), ("z",)),
                             lambda f: ("and", (f, ("not", f))), lambda f: f]:
                    self.same(wrap(rel("e", *args)), "e", variables, body)
                    self.same(wrap(("some", ("z",), ("and", (rel("e", *args), rel("e", *args[::-1]))))), "e", variables, body)

    def test_variables_of_the_formula_bound_in_the_body(self):
        bodies = [
            ("lfp", "r", ("x",), ("or", (("eq", "x", "a"), ("some", ("y",), ("and", (rel("r", "y"), rel("e", "y", "x")))))), ("b",)),
            ("tc", ("x", "y"), rel("e", "x", "y"), ("a", "b")),
            ("pfp", "r", ("a",), ("or", (("eq", "a", "b"), rel("r", "a"))), ("a",)),
            ("guess", "r", 1, ("all", ("x",), ("or", (rel("r", "x"), rel("e", "a", "x"), ("eq", "b", "x"))))),
            ("and", (("some", ("a",), rel("e", "a", "b")), ("all", ("b",), ("or", (rel("e", "a", "b"), ("less", "b", "a")))))),
        ]
        for body in bodies:
            self.same(rel("e", "x", "y"), "e", ("a", "b"), body)
            self.same(rel("e", "y", "y"), "e", ("a", "b"), body)
            self.same(("all", ("x", "a"), ("or", (rel("e", "x", "a"), rel("e", "a", "y"), rel("e", "b", "x")))), "e", ("a", "b"), body)
            self.same(("some", ("b", "x"), ("and", (rel("e", "b", "x"), ("not", rel("e", "x", "b"))))), "e", ("b", "a"), body)

    def test_names_that_the_program_makes(self):
        body = ("some", ("x",), ("and", (rel("e", "a", "x"), ("not", ("eq", "x", "b")))))
        formula = ("some", ("x",), ("all", ("y",), ("or", (rel("e", "x", "y"), rel("e", "y", "x"), rel("e", "z", "x")))))
        for _ in range(3):
            formula = replaced(formula, "e", ("a", "b"), body)
        made = sorted({variable for part, _ in ways(formula) if part[0] == "some" for variable in part[1]})
        for name in made[:8]:
            other = ("all", (name,), ("or", (rel("e", name, "x"), rel("e", "x", "y"))))
            self.same(other, "e", ("a", "b"), body)
            self.same(other, "e", ("a", name), ("some", ("x",), ("and", (rel("e", name, "x"), ("not", ("eq", "x", "a"))))))

    def test_empty_list(self):
        formula = ("and", (("not", rel("q")), ("some", ("x",), ("or", (rel("p", "x"), rel("q"))))))
        for body in [TRUE, FALSE, ("not", rel("q")), ("some", ("x",), rel("p", "x")), ("all", ("x", "y"), rel("e", "x", "y"))]:
            self.same(formula, "q", (), body)
        self.assertEqual(replaced(rel("q"), "q", (), TRUE), TRUE)

    def test_six_variables(self):
        body = ("and", (("less", "a", "b"), ("eq", "c", "f"), rel("e", "d", "c"), rel("p", "c")))
        formula = ("some", ("x", "a"), ("or", (rel("w", *"xyaxyz"), ("not", rel("w", *"aaxxyz")))))
        self.same(formula, "w", tuple("abcdef"), body)
        self.same(formula, "w", tuple("fedcba"), body)
        self.same(("guess", "r", 1, ("and", (rel("r", "x"), rel("w", *"xyxyxy")))), "w", tuple("abcdef"), body)

    def test_made_formulas(self):
        changed = checked = 0
        while checked < 500:
            name, arity = self.source.choice(list(ARITIES.items()))
            variables = tuple(self.source.sample(["x", "y", "z", "e", "v1", "v2"], arity))
            maker = Maker(self.source, ALL_KINDS, self.source.choice([["x", "y", "z", "e"], ["x", "y", "v1", "v2"]]))
            formula = maker.formula(self.source.randrange(2, 6), symbol_names({name: arity, "p": 1}))
            body = Maker(self.source, self.source.choice([ALL_KINDS, FIRST_ORDER])).formula(self.source.randrange(1, 5), symbol_names())
            missing = tuple(variable for variable in told_free(body) if variable not in variables)
            if missing:
                body = (self.source.choice(["some", "all"]), missing, body)
            bound = set().union(*occurrences(formula, name))
            if bound & {symbol for symbol, _ in told_symbols(body)}:
                with self.assertRaises(BadFormula):
                    replaced(formula, name, variables, body)
            elif occurrences(formula, name):
                changed += self.same(formula, name, variables, body) > 0
                checked += 1
        self.assertGreater(changed, 100)

    def test_arguments_stay(self):
        told = (("some", ("x",), rel("e", "x", "y")), "e", ("a", "b"), ("some", ("x",), rel("e", "b", "x")))
        before = copy.deepcopy(told)
        replaced(*told)
        self.assertEqual(told, before)


class TestErrors(unittest.TestCase):
    def bad(self, error, *told):
        with self.assertRaises(error):
            replaced(*told)

    def test_bad_formulas_first(self):
        for formula in [None, (), nested(41), with_parts(2001), ("rel", "e", ["x"]), ("lfp", "r", ("x",), ("not", rel("r", "x")), ("x",))]:
            for name, variables in [("p", ("x",)), ("and", ("x",)), (None, None), ("p", ["x"])]:
                self.bad(BadFormula, formula, name, variables, X)
                self.bad(BadFormula, X, name, variables, formula)

    def test_bad_arguments_second(self):
        long = tuple("abcdefg")
        for formula, body in [(X, X), (rel("p", "x", "x"), rel("e", "z")), (("guess", "e", 1, rel("p", "x")), rel("e", "x"))]:
            for name in ["and", "", "P", "a" * 13, None, 1, True, ("p",), ["p"], "p q"]:
                self.bad(BadArgument, formula, name, ("x",), body)
            for variables in [["x"], "x", None, ("x", "x"), long, ("and",), ("X",), (1,), (True,), (("x",),), {"x": 1}, (None,), ("x", ["y"])]:
                self.bad(BadArgument, formula, "p", variables, body)

    def test_the_name_with_another_arity(self):
        for formula in [rel("p", "x"), ("and", (TRUE, ("some", ("x",), rel("p", "x")))), ("and", (rel("p", "x"), ("guess", "p", 2, rel("p", "x", "x"))))]:
            self.bad(BadFormula, formula, "p", ("x", "y"), X)
            self.bad(BadFormula, formula, "p", (), TRUE)
            replaced(formula, "p", ("x",), X)
        # A bound name is no symbol.
        replaced(("guess", "p", 2, rel("p", "x", "x")), "p", ("x",), X)

    def test_free_variables_of_the_body(self):
        for body in [rel("e", "x", "z"), ("eq", "z", "z"), ("some", ("x",), ("less", "x", "z")), ("tc", ("x", "z"), TRUE, ("x", "z"))]:
            for formula in [rel("p", "x"), rel("p", "z"), X]:
                self.bad(BadFormula, formula, "p", ("x",), body)
        self.bad(BadFormula, rel("q"), "q", (), X)
        replaced(rel("p", "x"), "p", ("x",), ("some", ("z",), ("less", "x", "z")))

    def test_symbols_with_two_arities(self):
        for formula in [("and", (rel("p", "x"), rel("e", "x", "y"))), rel("e", "x", "y")]:
            self.bad(BadFormula, formula, "p", ("x",), rel("e", "x"))
            self.bad(BadFormula, formula, "p", ("x",), ("or", (X, rel("e"))))
            replaced(formula, "p", ("x",), rel("e", "x", "x"))
        replaced(("and", (rel("p", "x"), ("guess", "e", 1, rel("e", "x")))), "p", ("x",), rel("e", "x", "x"))

    def test_symbols_that_are_bound_round_the_name(self):
        for make in [lambda f: ("guess", "e", 2, f), lambda f: ("lfp", "e", ("x", "y"), f, ("x", "x")),
                     lambda f: ("pfp", "e", ("x", "y"), f, ("x", "x"))]:
            for formula in [make(rel("p", "x")), ("some", ("x",), make(("or", (X, ("all", ("x",), rel("p", "x"))))))]:
                self.bad(BadFormula, formula, "p", ("x",), rel("e", "x", "x"))
                self.bad(BadFormula, formula, "p", ("x",), ("and", (rel("q"), rel("e", "x", "x"))))
                self.bad(BadFormula, ("and", (rel("p", "x"), formula)), "p", ("x",), rel("e", "x", "x"))
                replaced(formula, "p", ("x",), rel("f", "x", "x"))
                replaced(formula, "p", ("x",), ("guess", "e", 2, rel("e", "x", "x")))
                replaced(formula, "p", ("x",), rel("p", "x"))
            replaced(("and", (make(X), rel("p", "x"))), "p", ("x",), rel("e", "x", "x"))
            replaced(make(("guess", "p", 1, rel("p", "x"))), "p", ("x",), rel("e", "x", "x"))

    def test_bad_formula_before_too_large(self):
        wide = ("or", (("or", (rel("p", "x"),) * 40),) * 40)
        self.bad(TooLarge, wide, "p", ("x",), ("not", ("not", X)))
        self.bad(BadFormula, wide, "p", ("x",), ("not", ("not", rel("e", "z"))))
        self.bad(BadFormula, wide, "p", ("x", "y"), ("not", ("not", X)))


class TestTooLarge(unittest.TestCase):
    def test_number_of_parts(self):
        for many in range(1, 41):
            formula, body = ("and", (rel("p", "x"),) * many), with_parts(1500 // (many + 1))
            found = replaced(formula, "p", ("x",), body)
            self.assertEqual(parts(found), 1 + many * parts(body))

    def test_widest(self):
        body = ("or", (X,) * 39)
        self.assertEqual(parts(replaced(("and", (rel("p", "x"),) * 36), "p", ("x",), body)), 1 + 36 * 40)
        body = with_parts(500)
        self.assertEqual(parts(replaced(("and", (rel("p", "x"),) * 2), "p", ("x",), body)), 1001)
        wide = ("or", (("or", (rel("p", "x"),) * 24),) * 29)
        self.assertEqual(parts(replaced(wide, "p", ("x",), ("not", X))), 1 + 29 * 49)

    def test_depths(self):
        for low in range(1, 38):
            formula, body = rel("p", "x"), rel("e", "x", "x")
            for _ in range(low - 1):
                formula = ("some", ("y",), formula)
            for _ in range(38 - low - 1):
                body = ("not", body)
            self.assertEqual(told_depth(formula) + told_depth(body), 38)
            self.assertEqual(depth(replaced(formula, "p", ("x",), body)), 37)

    def test_only_if_it_would_be_no_formula(self):
        deep = rel("p", "x")
        for _ in range(39):
            deep = ("not", deep)
        self.assertEqual(depth(replaced(deep, "p", ("x",), X)), 40)
        with self.assertRaises(TooLarge):
            replaced(deep, "p", ("x",), ("not", X))
        with self.assertRaises(TooLarge):
            replaced(("or", (("or", (rel("p", "x"),) * 40),) * 40), "p", ("x",), ("not", X))
        with self.assertRaises(TooLarge):
            replaced(("or", (("or", (rel("p", "x"),) * 40),) * 40), "p", ("x",), with_parts(2000))

    def test_what_does_not_occur_costs_nothing(self):
        self.assertEqual(replaced(with_parts(2000), "p", ("x",), with_parts(2000)), with_parts(2000))
        self.assertEqual(replaced(nested(40), "p", (), nested(40)), nested(40))

    def test_structures_stay(self):
        structure = Structure(2, [("p", 1, [(0,)])])
        replaced(rel("p", "x"), "p", ("y",), ("not", rel("p", "y")))
        self.assertEqual(structure.relations, [("p", 1, ((0,),))])


if __name__ == "__main__":
    unittest.main()
