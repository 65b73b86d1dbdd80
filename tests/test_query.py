import copy
import unittest

from samples import FALSE
from samples import TRUE
from samples import X
from sayso.errors import BadArgument
from sayso.meaning import holds
from sayso.meaning import query
from sayso.structures import Structure

EDGE = ("rel", "e", ("x", "y"))
RING = Structure(3, [("e", 2, [(0, 1), (1, 2), (2, 0)]), ("p", 1, [(0,), (2,)])])


class TestQuery(unittest.TestCase):
    def bad(self, formula, variables):
        with self.assertRaises(BadArgument):
            query(formula, RING, variables)

    def test_order_of_variables(self):
        self.assertEqual(query(EDGE, RING, ["x", "y"]), [(0, 1), (1, 2), (2, 0)])
        self.assertEqual(query(EDGE, RING, ["y", "x"]), [(0, 2), (1, 0), (2, 1)])

    def test_ascending_as_numbers(self):
        large = Structure(12, [("e", 2, [(11, 2), (2, 11), (2, 9), (10, 0), (9, 10)])])
        self.assertEqual(query(EDGE, large, ["x", "y"]), [(2, 9), (2, 11), (9, 10), (10, 0), (11, 2)])
        self.assertEqual(query(EDGE, large, ["y", "x"]), [(0, 10), (2, 11), (9, 2), (10, 9), (11, 2)])

    def test_further_variables(self):
        self.assertEqual(query(("rel", "p", ("x",)), RING, ["z", "x"]), [(j, k) for j in range(3) for k in (0, 2)])
        self.assertEqual(query(("rel", "p", ("x",)), RING, ["x", "z"]), [(j, k) for j in (0, 2) for k in range(3)])
        self.assertEqual(query(("some", ("x",), ("rel", "p", ("x",))), RING, ["x"]), [(0,), (1,), (2,)])
        self.assertEqual(query(FALSE, RING, ["e", "p"]), [])
        # A variable that is bound within is another one there.
        self.assertEqual(query(("and", (("rel", "p", ("x",)), ("some", ("x", "y"), EDGE))), RING, ["y", "x"]),
                         [(j, k) for j in range(3) for k in (0, 2)])

    def test_sentences(self):
        self.assertEqual(query(TRUE, RING, []), [()])
        self.assertEqual(query(FALSE, RING, []), [])
        self.assertEqual(query(("all", ("x",), ("some", ("y",), EDGE)), RING, []), [()])
        self.assertEqual(query(("all", ("x",), ("rel", "p", ("x",))), RING, []), [])

    def test_missing_variables(self):
        for variables in [[], ["x"], ["y"], ["z"], ["z", "x"], ["x", "z", "w"]]:
            self.bad(EDGE, variables)
        self.bad(("and", (FALSE, X)), [])
        self.bad(("some", ("x",), EDGE), ["x"])

    def test_variables_twice(self):
        self.bad(EDGE, ["x", "y", "x"])
        self.bad(EDGE, ["x", "x"])
        self.bad(TRUE, ["z", "z"])
        self.bad(TRUE, ["z", "y", "z"])

    def test_what_is_no_list_of_variables(self):
        for variables in [("x", "y"), "xy", None, 3, {"x": 1, "y": 2}, {"x", "y"}, ["x", "y", "and"], ["x", "y", "X"], ["x", "y", 1],
                          ["x", "y", None], ["x", "y", True], ["x", "y", ["z"]], ["x", "y", ""], ["x", "y", "a" * 13], ["x", "y", ("z",)]]:
            self.bad(EDGE, variables)
        for values in [None, [], ("x", "y"), [("x", 0), ("y", 1)], 3, "xy"]:
            with self.assertRaises(BadArgument):
                holds(EDGE, RING, values)

    def test_variables_stay(self):
        variables = ["y", "x", "z"]
        before = copy.deepcopy((variables, RING.relations))
        found = query(EDGE, RING, variables)
        self.assertEqual((variables, RING.relations), before)
        found.clear()
        self.assertEqual(len(query(EDGE, RING, variables)), 9)

    def test_answers_do_not_change_each_other(self):
        # The second half of the tuples needs what the fixed points of the first half do not have.
        for word in ["lfp", "pfp"]:
            within = (word, "r", ("x",), ("or", (("rel", "r", ("x",)), ("eq", "x", "y"))), ("z",))
            self.assertEqual(query(within, RING, ["y", "z"]), [(k, k) for k in range(3)])


if __name__ == "__main__":
    unittest.main()
