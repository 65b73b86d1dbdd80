import random
import time
import unittest

from fitting import Maker
from fitting import formula_of_cost
from fitting import many_fitting
from fitting import symbol_names
from samples import FALSE
from samples import TRUE
from samples import X
from samples import nested
from samples import with_parts
from sayso.errors import BadArgument
from sayso.errors import BadFormula
from sayso.errors import TooLarge
from sayso.meaning import cost
from sayso.meaning import holds
from sayso.meaning import query
from sayso.structures import Structure
from second import told_cost
from second import told_too_large

NAMES = tuple("abcdefgh")
LARGEST = 10 ** 9


def some(count, formula):
    return ("some", NAMES[:count], formula)


def chain(word, count):
    formula = X
    for _ in range(count):
        formula = {
            "some": ("some", NAMES[:6], formula), "lfp": ("lfp", "r", NAMES[:6], formula, NAMES[:6]),
            "pfp": ("pfp", "r", NAMES[:6], formula, NAMES[:6]), "tc": ("tc", NAMES, formula, NAMES),
            "guess": ("guess", "r", 3, formula),
        }[word]
    return formula


class TestCost(unittest.TestCase):
    def test_each_kind(self):
        two = ("and", (X, TRUE, FALSE))
        for n in range(1, 17):
            self.assertEqual(cost(X, n), 1)
            self.assertEqual(cost(("less", "x", "y"), n), 1)
            self.assertEqual(cost(("rel", "e", ("x",) * 6), n), 1)
            self.assertEqual(cost(TRUE, n), 1)
            self.assertEqual(cost(FALSE, n), 1)
            self.assertEqual(cost(two, n), 4)
            self.assertEqual(cost(("or", (two, two)), n), 9)
            self.assertEqual(cost(("not", two), n), 5)
            for k in range(1, 7):
                self.assertEqual(cost(("some", NAMES[:k], two), n), min(1 + 4 * n ** k, LARGEST))
                self.assertEqual(cost(("all", NAMES[:k], two), n), min(1 + 4 * n ** k, LARGEST))
                self.assertEqual(cost(("lfp", "r", NAMES[:k], two, NAMES[:k]), n), min(1 + 4 * n ** (2 * k), LARGEST))
            for k in [2, 4, 6, 8]:
                self.assertEqual(cost(("tc", NAMES[:k], two, NAMES[:k]), n), min(1 + 4 * n ** k, LARGEST))
            for k in [1, 2]:
                count = n ** k
                self.assertEqual(cost(("pfp", "r", NAMES[:k], two, NAMES[:k]), n), min(1 + 4 * count * 2 ** count, LARGEST))
            for k in range(4):
                for body, told in [(two, 4), (X, 1), (("not", X), 2)]:
                    self.assertEqual(cost(("guess", "r", k, body), n), min(1 + told * 2 ** n ** k, LARGEST))

    def test_by_hand(self):
        self.assertEqual(cost(("pfp", "r", ("x",), ("not", X), ("x",)), 3), 49)
        self.assertEqual(cost(("guess", "r", 0, ("not", X)), 16), 5)
        self.assertEqual(cost(("lfp", "r", ("x", "y"), ("some", ("z",), X), ("x", "y")), 3), 325)
        self.assertEqual(cost(("tc", ("x", "y"), ("some", ("z",), X), ("x", "y")), 3), 37)

    def test_made_formulas(self):
        source = random.Random(5)
        maker = Maker(source)
        for _ in range(2000):
            formula = maker.formula(source.randrange(1, 8), symbol_names())
            n = source.randrange(1, 4)
            self.assertEqual(cost(formula, n), min(told_cost(formula, n), LARGEST))

    def test_at_the_largest(self):
        self.assertEqual(cost(some(4, some(4, X)), 10), 10 ** 8 + 10 ** 4 + 1)
        self.assertEqual(cost(some(4, some(5, X)), 10), LARGEST)
        for count in range(20, 40):
            formula = some(5, some(2, ("or", (X,) * count)))
            self.assertEqual(cost(formula, 12), min(1 + 12 ** 5 * (1 + 144 * (1 + count)), LARGEST))
        self.assertEqual(cost(("not", some(6, some(3, TRUE))), 10), LARGEST)

    def test_just_below_the_largest(self):
        low = formula_of_cost(10, 999999998)
        self.assertEqual(told_cost(low, 10), 999999998)
        self.assertEqual(cost(low, 10), 999999998)
        self.assertEqual(cost(("not", low), 10), 999999999)
        self.assertEqual(cost(("not", ("not", low)), 10), LARGEST)
        self.assertEqual(cost(("not", ("not", ("not", low))), 10), LARGEST)

    def test_thousands_of_figures_at_once(self):
        started = time.perf_counter()
        formula = X
        for k in range(38):
            self.assertEqual(cost(("pfp", "r", NAMES[:6], formula, NAMES[:6]), 16), LARGEST)
            formula = ("pfp", "r", NAMES[:6], formula, NAMES[:6]) if k % 2 else ("guess", "r", 3, formula)
        self.assertEqual(cost(formula, 16), LARGEST)
        self.assertEqual(cost(formula, 2), LARGEST)
        self.assertEqual(cost(with_parts(2000), 16), 2000)
        self.assertEqual(cost(("or", (formula,) * 40), 16), LARGEST)
        for word in ["some", "lfp", "pfp", "tc", "guess"]:
            self.assertEqual(cost(chain(word, 39), 16), LARGEST)
        self.assertLess(time.perf_counter() - started, 5)

    def test_one_element(self):
        for word in ["some", "lfp", "tc"]:
            self.assertEqual(cost(chain(word, 39), 1), 40)
        self.assertEqual(cost(chain("pfp", 20), 1), 2 ** 21 - 1)
        self.assertEqual(cost(chain("guess", 20), 1), 2 ** 21 - 1)
        self.assertEqual(cost(chain("pfp", 28), 1), 2 ** 29 - 1)
        self.assertEqual(cost(chain("pfp", 29), 1), LARGEST)
        self.assertEqual(cost(chain("pfp", 39), 1), LARGEST)

    def test_bad_sizes(self):
        for n in [0, 17, -1, 10 ** 5000, True, False, None, "3", "", 3.0, [3], (3,), {}]:
            with self.assertRaises(BadArgument):
                cost(X, n)

    def test_bad_formulas(self):
        for formula in [None, (), "x = x", ["eq", "x", "x"], nested(41), with_parts(2001), ("and", (None,))]:
            for n in [3, 0, True, None]:
                with self.assertRaises(BadFormula):
                    cost(formula, n)


class TestTooLarge(unittest.TestCase):
    def within(self, formula, n, values=None):
        self.assertIn(holds(formula, Structure(n, []), values or {}), [True, False])

    def beyond(self, formula, n, values=None):
        with self.assertRaises(TooLarge):
            holds(formula, Structure(n, []), values or {})
        with self.assertRaises(TooLarge):
            query(formula, Structure(n, []), sorted(values or {}))

    def test_three_millions(self):
        for n in [12, 13, 16]:
            formula = formula_of_cost(n, 3 * 10 ** 6)
            self.assertEqual(cost(formula, n), 3 * 10 ** 6)
            self.assertIs(holds(formula, Structure(n, []), {}), False)
            self.assertEqual(query(formula, Structure(n, []), []), [])
            self.beyond(("not", formula), n)
            self.beyond(formula_of_cost(n, 3 * 10 ** 6 + 1), n)

    def test_cost_of_what_decides_nothing(self):
        # The answer is plain at once, and the formula is too large all the same.
        self.beyond(("or", (TRUE, formula_of_cost(10, 3 * 10 ** 6))), 10)
        self.beyond(("and", (FALSE, formula_of_cost(10, 3 * 10 ** 6))), 10)

    def test_pfp_and_guess(self):
        for n in range(1, 17):
            for formula in [("pfp", "r", ("x",), X, ("x",)), ("guess", "r", 1, X)]:
                if n <= 12:
                    self.within(formula, n, {"x": 0})
                    self.within(("or", (TRUE, ("not", formula))), n, {"x": 0})
                else:
                    self.beyond(formula, n, {"x": 0})
                    self.beyond(("or", (TRUE, ("not", formula))), n, {"x": 0})
            self.within(("guess", "r", 0, X), n, {"x": 0})

    def test_pfp_and_guess_of_more_places(self):
        for n, k in [(3, 2), (2, 3), (1, 3)]:
            self.within(("pfp", "r", NAMES[:k], X, ("x",) * k), n, {"x": 0})
            self.within(("guess", "r", k, X), n, {"x": 0})
        for n, k in [(4, 2), (3, 3), (16, 3), (16, 2)]:
            self.beyond(("pfp", "r", NAMES[:k], X, ("x",) * k), n, {"x": 0})
            self.beyond(("guess", "r", k, X), n, {"x": 0})
        self.within(("pfp", "r", NAMES[:6], X, ("x",) * 6), 1, {"x": 0})
        self.beyond(("pfp", "r", NAMES[:4], X, ("x",) * 4), 2, {"x": 0})
        self.assertLess(cost(("guess", "r", 2, X), 4), 3 * 10 ** 6)
        self.assertLess(cost(("pfp", "r", ("x",), X, ("x",)), 16), 3 * 10 ** 6)

    def test_lfp_and_tc(self):
        # Their own bound of 4096 is never met below that of the cost.
        for n, k in [(12, 3), (16, 2), (6, 4), (4, 5), (3, 6), (2, 6)]:
            self.within(("lfp", "r", NAMES[:k], X, ("x",) * k), n, {"x": 0})
        for n, k in [(13, 3), (7, 4), (16, 3), (8, 4), (16, 6), (4, 6)]:
            self.beyond(("lfp", "r", NAMES[:k], X, ("x",) * k), n, {"x": 0})
        for n, k in [(12, 6), (16, 4), (6, 8), (2, 8)]:
            self.within(("tc", NAMES[:k], ("eq", "a", "b"), ("x",) * k), n, {"x": 0})
        for n, k in [(13, 6), (7, 8), (16, 6), (16, 8)]:
            self.beyond(("tc", NAMES[:k], ("eq", "a", "b"), ("x",) * k), n, {"x": 0})

    def test_made_formulas(self):
        source = random.Random(17)
        for formula in many_fitting(400, 18, 10 ** 40, 4):
            n = source.randrange(1, 5)
            free_ones = {"x": 0, "y": 0, "z": 0, "e": 0}
            structure = Structure(n, [("e", 2, []), ("p", 1, []), ("q", 0, []), ("x", 1, [])])
            if told_too_large(formula, n):
                with self.assertRaises(TooLarge):
                    holds(formula, structure, free_ones)
            elif told_cost(formula, n) < 10 ** 4:
                self.assertIn(holds(formula, structure, free_ones), [True, False])


class TestTooLargeQuery(unittest.TestCase):
    def within(self, formula, n, count):
        names = [f"x{k}" for k in range(count)]
        return query(formula, Structure(n, []), names)

    def beyond(self, formula, n, count):
        with self.assertRaises(TooLarge):
            self.within(formula, n, count)

    def test_number_of_tuples(self):
        for n, count in [(16, 3), (8, 4), (4, 6), (2, 12), (3, 7), (5, 5), (1, 100)]:
            self.assertEqual(len(self.within(TRUE, n, count)), n ** count)
        for n, count in [(16, 4), (9, 4), (5, 6), (2, 13), (3, 8), (16, 100), (6, 5)]:
            self.beyond(TRUE, n, count)
            self.beyond(FALSE, n, count)

    def test_tuples_times_cost(self):
        for n, count, wanted in [(10, 2, 30000), (10, 1, 300000), (2, 6, 46875), (5, 3, 24000), (16, 3, 732)]:
            formula = formula_of_cost(n, wanted)
            self.assertEqual(cost(formula, n), wanted)
            self.assertEqual(self.within(formula, n, count), [])
            self.assertLessEqual(n ** count * wanted, 3 * 10 ** 6)
            self.assertGreater(n ** count * (wanted + 1), 3 * 10 ** 6)
            self.beyond(("not", formula), n, count)
            self.beyond(formula_of_cost(n, wanted + 1), n, count)


if __name__ == "__main__":
    unittest.main()
