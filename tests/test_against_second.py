"""The meaning of formulas against the second evaluation, and in renamed structures."""

import copy
import random
import unittest
from collections import Counter

from fitting import ALL_KINDS
from fitting import ARITIES
from fitting import kinds_in
from fitting import made_structure
from fitting import many_fitting
from fitting import rows_of
from samples import told_free
from sayso.errors import BadFormula
from sayso.formulas import symbols
from sayso.meaning import holds
from sayso.meaning import query
from sayso.structures import Structure
from second import told_rows
from second import told_too_large

WORDS = ["rel", "eq", "less", "not", "and", "or", "some", "all", "lfp", "pfp", "tc", "guess"]


def with_body(word, body, other):
    """Formulas of a kind round a body; all of them bind the name r or use x and y."""
    return {
        "rel": [("rel", "e", ("x", "y"))], "eq": [("eq", "x", "y")], "less": [("less", "x", "y")],
        "not": [("not", body)],
        "and": [("and", (body, other)), ("and", (other, body, other))],
        "or": [("or", (body, other)), ("or", (("not", other), body))],
        "some": [("some", ("x",), body), ("some", ("y", "x"), body)],
        "all": [("all", ("y",), body), ("all", ("x", "y"), body)],
        "lfp": [("lfp", "r", ("x",), body, ("y",)), ("lfp", "r", ("x",), ("or", (body, other)), ("x",)),
                ("lfp", "e", ("x", "y"), ("or", (body, ("rel", "e", ("y", "x")))), ("y", "y"))],
        "pfp": [("pfp", "r", ("x",), ("not", body), ("y",)), ("pfp", "r", ("y",), ("and", (body, ("not", ("rel", "r", ("y",))))), ("x",)),
                ("pfp", "r", ("y", "x"), body, ("x", "y"))],
        "tc": [("tc", ("x", "y"), body, ("y", "x")), ("tc", ("y", "x"), ("and", (body, other)), ("y", "x")),
               ("tc", ("x", "y", "z", "w"), body, ("x", "x", "y", "y"))],
        "guess": [("guess", "r", 1, body), ("guess", "r", 1, ("and", (body, ("rel", "r", ("y",))))),
                  ("guess", "p", 2, ("or", (body, other)))],
    }[word]


def fits(formula, structure):
    """Whether a tuple is a formula that can be evaluated: names may be bound with other arities above their occurrences."""
    try:
        found = symbols(formula)
    except BadFormula:
        return False
    return all(symbol in structure.symbols() for symbol in found) and not told_too_large(formula, structure.size)


class TestAgainstSecond(unittest.TestCase):
    def agree(self, formula, structure):
        variables = told_free(formula)
        expected = told_rows(formula, structure, variables)
        self.assertEqual(query(formula, structure, variables), expected, (formula, structure.size, structure.relations))
        return len(expected)

    def test_each_kind_within_each_kind(self):
        source = random.Random(31)
        structures = [made_structure(source, size) for size in [1, 2, 2, 3]]
        edge, point = ("rel", "e", ("x", "y")), ("rel", "p", ("x",))
        checked = Counter()
        for outer in WORDS[3:]:
            for inner in WORDS:
                for inside in with_body(inner, edge, point) + with_body(inner, ("or", (("less", "y", "x"), point)), edge):
                    for formula in with_body(outer, inside, edge):
                        if "w" in told_free(formula):
                            continue
                        for structure in structures:
                            if structure.size < 3 or "pfp" not in kinds_in(formula):
                                if fits(formula, structure):
                                    self.agree(formula, structure)
                                    checked[outer, inner] += 1
        self.assertEqual(len(checked), len(WORDS[3:]) * len(WORDS))

    def test_made_formulas(self):
        source = random.Random(32)
        structures = {size: [made_structure(source, size) for _ in range(3)] for size in [1, 2, 3]}
        seen, mixed = Counter(), 0
        for size, count in [(1, 300), (2, 900), (3, 300)]:
            for formula in many_fitting(count, 33 + size, 3000, size):
                structure = source.choice(structures[size])
                if not told_too_large(formula, size):
                    seen.update(kinds_in(formula))
                    mixed += 0 < self.agree(formula, structure) < size ** len(told_free(formula))
        self.assertEqual(set(seen), set(ALL_KINDS))
        self.assertGreater(min(seen.values()), 100)
        self.assertGreater(mixed, 200)

    def test_holds_and_query_agree(self):
        source = random.Random(34)
        structure = made_structure(source, 3)
        for formula in many_fitting(150, 35, 1000, 3):
            if told_too_large(formula, 3):
                continue
            variables = told_free(formula)
            source.shuffle(variables)
            found = query(formula, structure, variables)
            self.assertEqual(found, sorted(set(found)))
            for row in rows_of(3, len(variables)):
                values = {**dict(zip(variables, row)), "more": None, "z9": [0]}
                before = copy.deepcopy(values)
                self.assertIs(holds(formula, structure, values), row in found)
                self.assertEqual(values, before)


class TestRenamed(unittest.TestCase):
    def test_without_less(self):
        source = random.Random(36)
        kinds = [word for word in ALL_KINDS if word != "less"]
        checked = 0
        for size in [2, 3]:
            for formula in many_fitting(300, 37 + size, 2000, size, kinds):
                if "less" in kinds_in(formula) or told_too_large(formula, size):
                    continue
                structure = made_structure(source, size)
                permutation = list(range(size))
                source.shuffle(permutation)
                variables = told_free(formula)
                found = query(formula, structure, variables)
                moved = sorted(tuple(permutation[element] for element in row) for row in found)
                self.assertEqual(query(formula, structure.renamed(permutation), variables), moved)
                checked += permutation != sorted(permutation) and 0 < len(found) < size ** len(variables)
        self.assertGreater(checked, 40)

    def test_with_less(self):
        # The order is that of the numbers, also in a renamed structure.
        structure = Structure(3, [("p", 1, [(0,)])])
        formula = ("some", ("y",), ("and", (("rel", "p", ("y",)), ("less", "y", "x"))))
        self.assertEqual(query(formula, structure, ["x"]), [(1,), (2,)])
        self.assertEqual(query(formula, structure.renamed([2, 1, 0]), ["x"]), [])

    def test_all_names_of_the_structures_fit(self):
        self.assertEqual(made_structure(random.Random(1), 2).symbols(), list(ARITIES.items()))


if __name__ == "__main__":
    unittest.main()
