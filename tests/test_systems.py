import copy
import random
import unittest

from fitting import formula_of_cost
from fitting import made_structure
from fitting import made_system
from samples import FALSE
from samples import TRUE
from samples import X
from samples import nested
from samples import told_symbols
from samples import with_parts
from sayso.errors import BadFormula
from sayso.errors import NotFitting
from sayso.errors import TooLarge
from sayso.fixed import check_system
from sayso.fixed import one_formula
from sayso.fixed import solve
from sayso.fixed import stages
from sayso.meaning import cost
from sayso.meaning import query
from sayso.structures import Structure
from second import told_cost
from second import told_stages
from second import told_too_large

PATH = Structure(4, [("e", 2, [(0, 1), (1, 2), (2, 3)]), ("p", 1, [(2,)]), ("q", 0, [()])])
NAMES = tuple("abcdefgh")


def rel(name, *variables):
    return ("rel", name, variables)


def neg(formula):
    return ("not", formula)


EDGE = rel("e", "x", "y")
# Points at an even and at an odd distance from the first point of a path.
EVEN = ("even", ("x",), ("or", (("all", ("y",), neg(("less", "y", "x"))), ("some", ("y",), ("and", (rel("e", "y", "x"), rel("odd", "y")))))))
ODD = ("odd", ("y",), ("some", ("x",), ("and", (EDGE, rel("even", "x")))))
PARITY = [EVEN, ODD]


def defined(body, name="r", variables=("x",)):
    return [(name, variables, body)]


class TestCheckSystem(unittest.TestCase):
    def bad(self, system):
        for function in [check_system, lambda one: solve(one, PATH), lambda one: stages(one, PATH), lambda one: one_formula(one, 0)]:
            with self.assertRaises(BadFormula):
                function(system)

    def good(self, system):
        before = copy.deepcopy(system)
        self.assertIsNone(check_system(system))
        self.assertEqual(system, before)

    def test_systems(self):
        self.good(PARITY)
        self.good(defined(X))
        self.good([("r", tuple("abcdef"), rel("r", *"fedcba"))])
        self.good([("x", ("x",), rel("x", "x"))])
        self.good([("r", ("x",), rel("s", "x", "x")), ("s", ("x", "y"), ("and", (rel("r", "x"), rel("t", "y")))), ("t", ("z",), TRUE)])

    def test_number_of_definitions(self):
        many = [(f"r{k}", ("x",), rel(f"r{(k + 1) % 24}", "x")) for k in range(24)]
        self.good(many)
        self.bad(many + [("s", ("x",), X)])
        self.bad([])

    def test_lists_and_tuples(self):
        for system in [None, (), ("r", ("x",), X), (("r", ("x",), X),), {}, "r", 3, True, {("r", ("x",), X): 1}]:
            self.bad(system)
        for definition in [None, ["r", ("x",), X], (), ("r",), ("r", ("x",)), ("r", ("x",), X, ("x",)), ("r", ["x"], X), ("r", "x", X),
                           ("r", ("x",), list(X)), ("r", ("x",), None), "rxf", ("r", {"x": 1}, X), ("r", None, X), (("x",), "r", X)]:
            with self.subTest(repr(definition)):
                self.bad([definition])
                self.bad([("s", ("x",), X), definition])

    def test_names(self):
        for name in ["and", "", "R", None, 1, True, ("r",), ["r"], "a" * 13]:
            self.bad([(name, ("x",), X)])
        self.bad([("r", ("x",), X), ("r", ("x",), X)])
        self.bad([("r", ("x",), X), ("s", ("x",), X), ("r", ("x", "y"), X)])

    def test_variables(self):
        for variables in [(), tuple("abcdefg"), ("x", "x"), ("x", "y", "x"), ("all",), ("X",), (1,), (True,), (None,), (["x"],), (("x",),)]:
            self.bad([("r", variables, TRUE)])
        for count in range(1, 7):
            self.good([("r", NAMES[:count], TRUE)])

    def test_free_variables(self):
        for body in [("eq", "x", "y"), rel("e", "y", "x"), ("some", ("x",), EDGE), ("lfp", "s", ("y",), TRUE, ("y",)), ("tc", ("x", "y"), EDGE, ("x", "z"))]:
            self.bad(defined(body))
            self.bad([("s", ("x", "y", "z"), body), ("r", ("x",), body)])
            self.good([("r", ("x", "y", "z"), body)])

    def test_bad_bodies(self):
        for body in [nested(41), with_parts(2001), rel("and", "x"), ("and", (rel("e", "x"), rel("e", "x", "x"))), ("not",),
                     ("lfp", "s", ("x",), neg(rel("s", "x")), ("x",))]:
            self.bad(defined(body))
        self.good(defined(nested(40)))
        self.good([("r", ("x",), with_parts(2000)), ("s", ("x",), with_parts(2000))])

    def test_numbers_of_arguments(self):
        self.bad(defined(rel("r", "x", "x")))
        self.bad(defined(rel("r")))
        self.bad([("r", ("x",), rel("s", "x")), ("s", ("x", "y"), TRUE)])
        self.bad([("s", ("x", "y"), TRUE), ("r", ("x",), ("or", (X, rel("s", "x"))))])
        self.bad([("r", ("x",), rel("e", "x")), ("s", ("x", "y"), rel("e", "x", "y"))])
        self.bad([("r", ("x",), rel("e", "x", "x")), ("s", ("x",), neg(("some", ("x",), rel("e"))))])
        # Where a name is bound it is another one.
        self.good(defined(("guess", "r", 2, rel("r", "x", "x"))))
        self.good([("r", ("x",), rel("e", "x")), ("s", ("x",), ("guess", "e", 2, rel("e", "x", "x")))])

    def test_positive(self):
        self.bad(defined(neg(rel("r", "x"))))
        self.good(defined(neg(neg(rel("r", "x")))))
        self.bad(defined(("or", (rel("r", "x"), neg(neg(neg(rel("r", "x"))))))))
        self.bad([("r", ("x",), neg(rel("s", "x"))), ("s", ("x",), X)])
        self.bad([("s", ("x",), X), ("r", ("x",), neg(rel("s", "x")))])
        self.good([("s", ("x",), X), ("r", ("x",), neg(rel("p", "x")))])
        self.bad(defined(("pfp", "s", ("x",), rel("r", "x"), ("x",))))
        self.bad(defined(neg(("pfp", "s", ("x",), rel("r", "x"), ("x",)))))
        self.good(defined(("pfp", "r", ("x",), neg(rel("r", "x")), ("x",))))
        self.good(defined(neg(("guess", "r", 1, neg(rel("r", "x"))))))
        self.bad(defined(("or", (neg(rel("r", "x")), ("guess", "r", 1, rel("r", "x"))))))
        for make in [lambda f: ("guess", "s", 1, f), lambda f: ("tc", ("x", "y"), f, ("x", "x")), lambda f: ("lfp", "s", ("x",), f, ("x",))]:
            self.good(defined(make(rel("r", "x"))))
            self.bad(defined(make(neg(rel("r", "x")))))
            self.bad(defined(neg(make(rel("r", "x")))))


class TestStages(unittest.TestCase):
    def check(self, system, structure, expected=None):
        before = copy.deepcopy((system, structure.size, structure.relations))
        found = stages(system, structure)
        self.assertEqual(found, told_stages(system, structure))
        if expected is not None:
            self.assertEqual(found, expected)
        self.assertEqual(found[0], [[] for _ in system])
        self.assertEqual(solve(system, structure), found[-1])
        self.assertEqual((system, structure.size, structure.relations), before)
        for stage, after in zip(found, found[1:]):
            self.assertNotEqual(stage, after)
            for rows, more in zip(stage, after):
                self.assertEqual(more, sorted(set(more)))
                self.assertLessEqual(set(rows), set(more))
        return found

    def test_parity(self):
        self.check(PARITY, PATH, [[[], []], [[(0,)], []], [[(0,)], [(1,)]], [[(0,), (2,)], [(1,)]], [[(0,), (2,)], [(1,), (3,)]]])
        self.check(PARITY[::-1], PATH, [[[], []], [[], [(0,)]], [[(1,)], [(0,)]], [[(1,)], [(0,), (2,)]], [[(1,), (3,)], [(0,), (2,)]]])

    def test_that_end_at_once(self):
        for body in [rel("r", "x"), FALSE, neg(X), ("and", (rel("r", "x"), rel("p", "x")))]:
            self.check(defined(body), PATH, [[[]]])
        self.check([("r", ("x",), rel("s", "x")), ("s", ("x",), rel("r", "x"))], PATH, [[[], []]])

    def test_that_end_after_one(self):
        self.check(defined(TRUE), PATH, [[[]], [[(k,) for k in range(4)]]])
        self.check([("r", ("x",), rel("p", "x")), ("s", ("y",), rel("s", "y"))], PATH, [[[], []], [[(2,)], []]])

    def test_all_at_the_same_time(self):
        self.check([("r", ("x",), TRUE), ("s", ("x",), rel("r", "x")), ("t", ("x",), rel("s", "x"))], Structure(1, []),
                   [[[], [], []], [[(0,)], [], []], [[(0,)], [(0,)], []], [[(0,)], [(0,)], [(0,)]]])
        self.check([("t", ("x",), rel("s", "x")), ("s", ("x",), rel("r", "x")), ("r", ("x",), TRUE)], Structure(1, []),
                   [[[], [], []], [[], [], [(0,)]], [[], [(0,)], [(0,)]], [[(0,)], [(0,)], [(0,)]]])

    def test_order_of_variables(self):
        self.check([("r", ("x", "y"), EDGE)], PATH, [[[]], [[(0, 1), (1, 2), (2, 3)]]])
        self.check([("r", ("y", "x"), EDGE)], PATH, [[[]], [[(1, 0), (2, 1), (3, 2)]]])

    def test_names_that_the_structure_has(self):
        body = ("or", (("all", ("y",), neg(("less", "y", "x"))), ("some", ("y",), ("and", (rel("e", "y", "x"), rel("p", "y"))))))
        self.check(defined(body, "p"), PATH, [[[]], [[(0,)]], [[(0,), (1,)]], [[(0,), (1,), (2,)]], [[(k,) for k in range(4)]]])
        # With another number of places, too, and with a name of the system that only the structure has otherwise.
        self.check(defined(("or", (rel("q", "x"), rel("p", "x"))), "q"), PATH, [[[]], [[(2,)]]])
        self.check([("r", ("x",), rel("p", "x")), ("p", ("x",), rel("q"))], PATH,
                   [[[], []], [[], [(k,) for k in range(4)]], [[(k,) for k in range(4)]] * 2])

    def test_names_bound_within(self):
        self.check(defined(("or", (rel("p", "x"), ("guess", "r", 1, ("and", (rel("r", "x"), neg(rel("r", "x")))))))), PATH, [[[]], [[(2,)]]])
        inside = ("lfp", "s", ("x",), ("or", (rel("r", "x"), ("some", ("y",), ("and", (EDGE, rel("s", "y")))))), ("x",))
        self.check([("r", ("x",), ("or", (rel("p", "x"), inside))), ("s", ("y",), rel("r", "y"))], PATH)

    def test_lists_are_new(self):
        found = stages(PARITY, PATH)
        lists = [found] + found + [rows for stage in found for rows in stage]
        self.assertEqual(len({id(one) for one in lists}), len(lists))
        for one in lists:
            self.assertIsInstance(one, list)
        found[-1][0].append(None)
        found[0].clear()
        self.assertEqual(stages(PARITY, PATH), told_stages(PARITY, PATH))
        solved = solve(PARITY, PATH)
        solved[0].clear()
        self.assertEqual(solve(PARITY, PATH), told_stages(PARITY, PATH)[-1])

    def test_made_systems(self):
        source = random.Random(91)
        longest = 0
        for _ in range(700):
            system = made_system(source, 2, 3, source.randrange(2, 6))
            structure = made_structure(source, source.choice([1, 2, 2, 3]))
            size = structure.size
            work = sum(size ** len(variables) for _, variables, _ in system) * sum(
                size ** len(variables) * told_cost(body, size) for _, variables, body in system)
            if work < 20000 and not any(told_too_large(body, size) for _, _, body in system):
                longest = max(longest, len(self.check(system, structure)))
        self.assertGreater(longest, 3)

    def test_least_of_all(self):
        # The least fixed point is contained in all relations that the bodies map into themselves.
        system = [("r", ("x",), ("or", (rel("p", "x"), rel("s", "x")))), ("s", ("x",), ("some", ("y",), ("and", (rel("e", "x", "y"), rel("r", "y")))))]
        structure = Structure(3, [("e", 2, [(0, 1), (2, 2)]), ("p", 1, [(1,)])])
        least = [set(rows) for rows in solve(system, structure)]
        self.assertEqual(least, [{(0,), (1,)}, {(0,)}])
        count = 0
        for first in range(8):
            for second in range(8):
                given = [[(k,) for k in range(3) if number >> k & 1] for number in (first, second)]
                held = structure.with_relation("r", 1, given[0]).with_relation("s", 1, given[1])
                mapped = [set(query(body, held, list(variables))) for _, variables, body in system]
                if all(rows <= set(into) for rows, into in zip(mapped, given)):
                    count += 1
                    self.assertTrue(all(rows <= set(into) for rows, into in zip(least, given)))
        self.assertGreater(count, 1)


class TestErrors(unittest.TestCase):
    def raised(self, error, system, structure):
        for function in [solve, stages]:
            with self.assertRaises(error):
                function(system, structure)

    def test_not_fitting(self):
        for body in [rel("f", "x"), rel("e", "x"), rel("q", "x"), ("and", (FALSE, rel("f"))), ("or", (rel("r", "x"), rel("p")))]:
            self.raised(NotFitting, defined(body), PATH)
            self.raised(NotFitting, [("s", ("x",), X), ("r", ("x",), body)], PATH)
        self.assertEqual(solve(defined(rel("r", "x")), Structure(2, [])), [[]])
        # A name of one definition need not be in the structure, wherever it occurs.
        self.assertEqual(solve([("r", ("x",), rel("s", "x")), ("s", ("x",), X)], Structure(1, [])), [[(0,)], [(0,)]])
        self.assertEqual(solve([("e", ("x",), rel("p", "x"))], PATH), [[(2,)]])

    def test_order(self):
        large = ("some", NAMES[:6], ("some", NAMES[:6], TRUE))
        self.raised(BadFormula, [("r", ("x",), ("and", (large, rel("f", "x"), neg(rel("r", "x")))))], Structure(16, []))
        self.raised(NotFitting, [("r", ("x",), ("and", (large, rel("f", "x"))))], Structure(16, []))
        self.raised(NotFitting, [("r", ("x",), large), ("s", ("x",), rel("f", "x"))], Structure(16, []))
        self.raised(TooLarge, [("r", ("x",), ("and", (large, rel("f", "x"))))], Structure(16, [("f", 1, [])]))

    def test_bodies_that_are_too_large(self):
        for body in [("pfp", "s", ("x",), X, ("x",)), ("guess", "s", 1, X)]:
            for n in range(1, 17):
                structure = Structure(n, [])
                if n <= 12 and n * n * cost(body, n) <= 3 * 10 ** 6:
                    self.assertEqual(len(solve(defined(body), structure)), 1)
                else:
                    self.raised(TooLarge, defined(body), structure)
                    self.raised(TooLarge, [("t", ("x",), X)] + defined(body), structure)
        self.raised(TooLarge, defined(("guess", "s", 1, X)), Structure(13, []))
        self.assertLess(13 * 13 * cost(("guess", "s", 1, X), 13), 3 * 10 ** 6)
        self.assertEqual(solve(defined(("guess", "s", 1, X)), Structure(12, [])), [[(k,) for k in range(12)]])

    def test_the_product(self):
        # One definition of cost c with N tuples: N * N * c at most 3000000.
        for n, count in [(10, 2), (10, 1), (2, 6), (16, 2), (5, 4), (12, 3)]:
            room = n ** count
            most = 3 * 10 ** 6 // (room * room)
            for wanted in [most, most + 1]:
                body = formula_of_cost(n, wanted)
                self.assertEqual(cost(body, n), wanted)
                if wanted == most:
                    self.assertEqual(solve([("r", NAMES[:count], body)], Structure(n, [])), [[]])
                else:
                    self.raised(TooLarge, [("r", NAMES[:count], body)], Structure(n, []))

    def test_the_sums(self):
        # The powers are 10 and 100, and 110 * (10 * c + 100 * d) at most 3000000.
        structure = Structure(10, [])
        for c, d, within in [(2697, 3, True), (2698, 3, False), (7, 272, True), (8, 272, False), (17, 271, True), (18, 271, False)]:
            self.assertEqual(110 * (10 * c + 100 * d) <= 3 * 10 ** 6, within)
            for system in [[("r", ("a",), formula_of_cost(10, c)), ("s", ("a", "b"), formula_of_cost(10, d))],
                           [("s", ("a", "b"), formula_of_cost(10, d)), ("r", ("a",), formula_of_cost(10, c))]]:
                if within:
                    self.assertEqual(stages(system, structure), [[[], []]])
                else:
                    self.raised(TooLarge, system, structure)

    def test_the_number_of_tuples(self):
        # More than 4096 tuples are always beyond the product, too.
        self.raised(TooLarge, [("r", NAMES[:4], TRUE)], Structure(16, []))
        self.raised(TooLarge, [("r", NAMES[:6], TRUE)], Structure(16, []))
        self.raised(TooLarge, [("r", ("a",), TRUE), ("s", NAMES[:5], FALSE)], Structure(6, []))
        self.assertEqual(len(solve([("r", NAMES[:3], TRUE)], Structure(12, []))[0]), 1728)


class TestSymbols(unittest.TestCase):
    def test_names_of_the_made_systems(self):
        source = random.Random(92)
        names = {name for _ in range(50) for system in [made_system(source)] for name, _, body in system if told_symbols(body)}
        self.assertLessEqual({"e", "p", "r"}, names)


if __name__ == "__main__":
    unittest.main()
