import copy
import random
import unittest

from fitting import ALL_KINDS
from fitting import FIRST_ORDER
from fitting import made_structure
from fitting import made_system
from samples import FALSE
from samples import TRUE
from samples import X
from samples import nested
from samples import own
from samples import told_free
from samples import told_symbols
from samples import ways
from samples import with_parts
from sayso.errors import BadArgument
from sayso.errors import BadFormula
from sayso.errors import TooLarge
from sayso.fixed import check_system
from sayso.fixed import one_formula
from sayso.fixed import solve
from sayso.formulas import check_formula
from sayso.formulas import parts
from sayso.meaning import cost
from sayso.meaning import query
from sayso.structures import Structure
from sayso.structures import is_name
from second import told_rows
from second import told_stages
from second import told_too_large


def rel(name, *variables):
    return ("rel", name, variables)


EDGE = rel("e", "x", "y")
PARITY = [
    ("even", ("x",), ("or", (("all", ("y",), ("not", ("less", "y", "x"))), ("some", ("y",), ("and", (rel("e", "y", "x"), rel("odd", "y"))))))),
    ("odd", ("y",), ("some", ("x",), ("and", (EDGE, rel("even", "x"))))),
]


def path(size):
    return Structure(size, [("e", 2, [(k, k + 1) for k in range(size - 1)]), ("p", 1, [(0,)])])


def lfp_count(formula):
    return sum(part[0] == "lfp" for part, _ in ways(formula))


def all_names(formula):
    """All names in a formula, of relations and of variables, free and bound."""
    found = set(told_free(formula))
    for part, _ in ways(formula):
        found.update(own(part))
        if part[0] in ("rel", "lfp", "pfp", "guess"):
            found.add(part[1])
    return found


def marks(count):
    """The number t of point 15."""
    return 0 if count == 1 else next(t for t in range(1, 9) if 2 ** (t - 1) >= count)


class TestOneFormula(unittest.TestCase):
    def made(self, system, index):
        """The formula, with all that can be told of it without a structure."""
        before = copy.deepcopy(system)
        found = one_formula(system, index)
        self.assertEqual(system, before)
        check_formula(found)
        names = {name for name, _, _ in system}
        self.assertLessEqual(set(told_free(found)), set(system[index][1]))
        symbols = {symbol for _, _, body in system for symbol in told_symbols(body) if symbol[0] not in names}
        self.assertEqual(told_symbols(found), sorted(symbols))
        self.assertEqual(lfp_count(found), 1 + sum(lfp_count(body) for _, _, body in system))
        for name in all_names(found):
            self.assertTrue(is_name(name))
        return found

    def same(self, system, structures, evaluate=query):
        for index, (_, variables, _) in enumerate(system):
            found = self.made(system, index)
            for structure in structures:
                expected = told_stages(system, structure)[-1][index]
                self.assertEqual(solve(system, structure)[index], expected)
                self.assertEqual(evaluate(found, structure, list(variables)), expected)

    def test_one_definition(self):
        reach = ("or", (("all", ("y",), ("not", ("less", "y", "x"))), ("some", ("y",), ("and", (rel("e", "y", "x"), rel("r", "y"))))))
        structure = Structure(3, [("e", 2, [(0, 1)]), ("p", 1, [(2,)]), ("q", 0, [])])
        self.same([("r", ("x",), reach)], [structure, path(1), path(4)])
        self.same([("r", ("y", "x"), ("or", (EDGE, rel("r", "x", "y"))))], [structure, path(4)])
        self.same([("p", ("x",), ("or", (rel("q"), ("some", ("x",), rel("p", "x")), ("less", "x", "x"))))], [structure])
        self.same([("r", tuple("abcdef"), ("or", (("less", "a", "b"), rel("r", *"badcfe"))))], [path(2)], told_rows)
        self.assertEqual(query(one_formula([("r", ("x",), reach)], 0), path(1), ["x"]), [(0,)])

    def test_parity(self):
        self.same(PARITY, [path(size) for size in range(2, 6)])
        self.same(PARITY[::-1], [path(size) for size in range(2, 6)])

    def test_different_numbers_of_variables(self):
        system = [
            ("r", ("x", "y"), ("or", (EDGE, ("some", ("z",), ("and", (rel("r", "x", "z"), rel("r", "z", "y"))))))),
            ("s", ("y",), ("some", ("x",), ("and", (rel("r", "x", "y"), rel("p", "x"))))),
        ]
        self.same(system, [path(2), path(3)])
        self.same(system[::-1], [path(2), path(3)])
        three = [("t", ("x", "y", "z"), ("and", (rel("r", "x", "y"), rel("r", "y", "z"))))] + system
        self.same(three, [path(2)], told_rows)
        self.made(three, 1)

    def test_many_definitions(self):
        for count in range(2, 25):
            system = [("d0", ("x",), rel("p", "x"))]
            for k in range(1, count):
                system.append((f"d{k}", ("y",), ("some", ("x",), ("and", (EDGE, rel(f"d{k - 1}", "x"))))))
            if marks(count) + 1 > 6:
                continue
            for index in {0, 1, count // 2, count - 1}:
                found = self.made(system, index)
                if not told_too_large(found, 2):
                    expected = [(index,)] if index < 2 else []
                    self.assertEqual(query(found, path(2), list(system[index][1])), expected)

    def test_two_definitions_of_which_each_has_what_the_other_has_not(self):
        for order in [lambda one: one, lambda one: one[::-1]]:
            system = order([("r", ("x",), rel("p", "x")), ("s", ("x",), ("not", rel("p", "x"))), ("t", ("x",), FALSE), ("u", ("x",), TRUE)])
            self.same(system, [path(2), path(3)])
            self.same(order(system[:3]), [path(2), path(3)])

    def test_variables_of_one_definition_bound_in_another(self):
        system = [
            ("r", ("x",), ("or", (rel("p", "x"), ("some", ("y",), ("and", (rel("s", "y"), rel("e", "y", "x"))))))),
            ("s", ("y",), ("some", ("x",), ("and", (rel("r", "x"), ("not", ("eq", "x", "y")), ("all", ("y",), ("or", (rel("r", "x"), X))))))),
            ("t", ("z",), ("tc", ("x", "y"), ("and", (EDGE, rel("r", "x"))), ("z", "z"))),
        ]
        self.same(system, [path(2), path(3)])
        self.same(system[::-1], [path(2), path(3)])

    def test_names_bound_in_the_bodies(self):
        system = [
            ("r", ("x",), ("or", (rel("p", "x"), ("guess", "s", 1, ("and", (rel("s", "x"), ("not", rel("s", "x")))))))),
            ("s", ("x",), ("lfp", "r", ("y",), ("or", (("eq", "x", "y"), ("some", ("x",), ("and", (EDGE, rel("r", "x"), rel("s", "y")))))), ("x",))),
        ]
        self.same(system, [path(2)])
        self.same(system + [("p", ("y",), rel("r", "y"))], [path(2)])

    def test_new_names(self):
        # The names that a first run made are in the next system, as free and bound variables, and as names of relations.
        made = sorted(all_names(one_formula(PARITY, 0)) - {"x", "y", "e"})
        variables = [name for name in made if name not in ("even", "odd")]
        for one in variables:
            for other in variables:
                if one == other:
                    continue
                system = [
                    (one, (one,), ("or", (rel("p", one), ("some", (other,), ("and", (rel(other, other), rel("e", other, one))))))),
                    (other, (other,), ("some", (one,), ("and", (rel(one, one), rel("e", one, other))))),
                ]
                check_system(system)
                found = self.made(system, 0)
                told = {one, other, "e", "p"}
                self.assertEqual(all_names(found) & told, {one, "e", "p"})
                self.assertEqual(query(found, path(4), [one]), [(0,), (2,)])

    def test_new_names_wherever_the_old_ones_stand(self):
        added = sorted(all_names(one_formula(PARITY, 0)) - {"x", "y", "e"})
        self.assertGreater(len(added), 3)
        for name in added:
            for system in [
                [("r", ("x",), TRUE), (name, ("x",), TRUE)],
                [("r", (name, "x"), TRUE), ("s", ("x",), TRUE)],
                [("r", ("x",), rel(name, "x")), ("s", ("x",), TRUE)],
                [("r", ("x",), TRUE), ("s", ("x",), ("guess", name, 0, TRUE))],
                [("r", ("x",), TRUE), ("s", ("x",), ("some", (name,), TRUE))],
                [("r", ("x",), TRUE), ("s", ("x",), ("tc", (name, "y"), rel("e", name, "y"), ("x", "x")))],
            ]:
                joined, above = next((part, above) for part, above in ways(self.made(system, 1)) if part[0] == "lfp")
                self.assertNotIn(name, (joined[1],) + own(joined))
                self.assertNotIn(name, [variable for outer in above for variable in own(outer)])

    def test_new_names_differ_from_all_others(self):
        source = random.Random(95)
        for _ in range(100):
            system = made_system(source, 2, 4)
            told = {name for definition in system for name in [definition[0]] + list(definition[1]) + sorted(all_names(definition[2]))}
            if len(system) > 1:
                for index in range(len(system)):
                    joined, above = next((part, above) for part, above in ways(one_formula(system, index)) if part[0] == "lfp")
                    self.assertNotIn(joined[1], told)
                    self.assertEqual(set(own(joined)) & told, set())
                    self.assertEqual({variable for outer in above for variable in own(outer)} & told, set())

    def test_made_systems(self):
        source = random.Random(96)
        checked = many = 0
        while checked < 400:
            system = made_system(source, source.choice([1, 2, 2, 3]), 4, source.randrange(2, 6), source.choice([FIRST_ORDER, ALL_KINDS]))
            structure = made_structure(source, source.choice([2, 2, 3]))
            size = structure.size
            if any(told_too_large(body, size) for _, _, body in system):
                continue
            for index in range(len(system)):
                found = self.made(system, index)
                variables = list(system[index][1])
                if cost(found, size) * size ** len(variables) < 50000 and not told_too_large(found, size):
                    self.assertEqual(query(found, structure, variables), told_stages(system, structure)[-1][index])
                    checked += 1
                    many += len(system) > 1
        self.assertGreater(many, 100)

    def test_errors(self):
        for index in [-1, 2, 3, 10 ** 9, True, False, None, "0", 0.0, (0,), [0]]:
            with self.assertRaises(BadArgument):
                one_formula(PARITY, index)
        for index in [1, -1, True, False]:
            with self.assertRaises(BadArgument):
                one_formula([("r", ("x",), X)], index)
        for system in [[], None, tuple(PARITY), PARITY * 2, [("r", ("x",), ("not", rel("r", "x")))], [("r", ("x",), None)]]:
            for index in [0, -1, None]:
                with self.assertRaises(BadFormula):
                    one_formula(system, index)


class TestTooLarge(unittest.TestCase):
    def test_numbers_of_variables(self):
        for count in range(1, 25):
            for most in range(1, 7):
                variables = tuple("abcdef"[:most])
                system = [("d0", variables, ("or", (rel("d0", *variables), rel(f"d{count - 1}", *("a" * (1 if count > 1 else most))))))]
                system += [(f"d{k}", ("a",), rel("d0", *("a" * most))) for k in range(1, count)]
                check_system(system)
                for index in {0, count - 1}:
                    if most + marks(count) <= 6:
                        self.assertEqual(lfp_count(one_formula(system, index)), 1)
                    else:
                        try:
                            self.assertEqual(lfp_count(one_formula(system, index)), 1)
                        except TooLarge:
                            pass

    def test_numbers_of_parts(self):
        # 300 parts: as many rel as there can be.
        for count in [1, 2, 4, 8, 16]:
            system = []
            for k in range(count):
                wanted = 300 // count
                blocks = []
                while wanted > 41:
                    blocks.append(("or", (rel(f"d{(k + 1) % count}", "x"),) * 40))
                    wanted -= 41
                body = ("or", tuple(blocks) + (rel("d0", "x"),) * (wanted - 1))
                self.assertEqual(parts(body), 300 // count)
                system.append((f"d{k}", ("x",), body))
            for index in range(count):
                self.assertEqual(lfp_count(one_formula(system, index)), 1)

    def test_depths(self):
        for count in [1, 2, 3, 5, 9, 16]:
            system = []
            for k in range(count):
                body = rel(f"d{(k + 1) % count}", "x")
                for level in range(29 if k in (0, count - 1) else 0):
                    body = ("some", ("y",), body) if level % 2 else ("and", (body,))
                system.append((f"d{k}", ("x",), body))
            for index in range(count):
                check_formula(one_formula(system, index))

    def test_far_beyond(self):
        system = [(f"d{k}", ("x",), ("or", (rel(f"d{k}", "x"), with_parts(1990)))) for k in range(24)]
        with self.assertRaises(TooLarge):
            one_formula(system, 0)
        with self.assertRaises(TooLarge):
            one_formula([("r", ("x",), nested(40)), ("s", ("x",), X)], 1)
        with self.assertRaises(TooLarge):
            one_formula([("r", ("x",), nested(40))], 0)
        with self.assertRaises(TooLarge):
            one_formula([("r", ("x",), with_parts(2000))], 0)
        check_formula(one_formula([("r", ("x",), nested(39))], 0))
        check_formula(one_formula([("r", ("x",), with_parts(1999))], 0))
        wide = [("r", tuple("abcdef"), TRUE)] + [(f"d{k}", ("x",), X) for k in range(23)]
        with self.assertRaises(TooLarge):
            one_formula(wide, 3)


if __name__ == "__main__":
    unittest.main()
