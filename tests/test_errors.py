import unittest

import sayso.errors
from machining import COUNTER
from machining import REACHES
from machining import WALKS
from sayso.clocks import clock_of_sentence
from sayso.clocks import system_of_clock
from sayso.desk import Desk
from sayso.errors import SaysoError
from sayso.fixed import check_system
from sayso.fixed import solve
from sayso.formulas import check_formula
from sayso.formulas import parse_formula
from sayso.forms import prenex
from sayso.games import keeping_table
from sayso.games import length
from sayso.guesses import accepts_some
from sayso.guesses import system_of_guess
from sayso.heads import heads_of_sentence
from sayso.heads import refusal
from sayso.machines import check_machine
from sayso.machines import run
from sayso.meaning import holds
from sayso.room import room_of_sentence
from sayso.room import sentence_of_room
from sayso.structures import Structure
from sayso.structures import parse_structure

NAMES = ["BadStructure", "BadFormula", "BadText", "BadArgument", "BadMachine", "NotFitting", "TooLarge", "BadLine"]


class TestErrors(unittest.TestCase):
    def test_base(self):
        self.assertEqual(SaysoError.__bases__, (ValueError,))

    def test_each_stands_directly_under_the_base(self):
        for name in NAMES:
            with self.subTest(name):
                error = getattr(sayso.errors, name)
                self.assertEqual(error.__bases__, (SaysoError,))
                self.assertEqual(error.__module__, "sayso.errors")
                with self.assertRaises(SaysoError):
                    raise error("why")

    def test_where_they_are_raised(self):
        two, sixteen = Structure(2, []), Structure(16, [])
        closure = parse_formula("some(x: tc(x y: e(x y))(x x))")
        for name, calls in {
            "BadStructure": [lambda: Structure(0, []), lambda: two.with_relation("e", 7, [])],
            "BadFormula": [lambda: check_formula(None), lambda: check_system([]), lambda: heads_of_sentence(()),
                           lambda: room_of_sentence(("some",)), lambda: clock_of_sentence(5)],
            "BadText": [lambda: parse_structure("0"), lambda: parse_formula("x")],
            "BadArgument": [lambda: prenex(closure), lambda: length(two, two, None), lambda: run(REACHES, two, 1), lambda: refusal(COUNTER, two),
                            lambda: clock_of_sentence(closure), lambda: system_of_guess(WALKS, 1, "g"), lambda: room_of_sentence(closure)],
            "BadMachine": [lambda: check_machine(()), lambda: sentence_of_room(None), lambda: accepts_some(1, two, 1)],
            "NotFitting": [lambda: holds(closure, two, {}), lambda: solve([("r", ("x",), ("rel", "e", ()))], two), lambda: run(WALKS, two, 1),
                           lambda: keeping_table(two, Structure(2, [("e", 1, [])]), 1), lambda: two.has("e", (0,))],
            "TooLarge": [lambda: keeping_table(sixteen, sixteen, 2), lambda: system_of_clock((12, (), 2, ()), 1), lambda: accepts_some(COUNTER, sixteen, 1),
                         lambda: sentence_of_room((6, (), 2, ())), lambda: refusal((3, (), 2, ()), sixteen)],
            "BadLine": [lambda: Desk().do("holds"), lambda: Desk().do(None), lambda: Desk().do("part 4")],
        }.items():
            for call in calls:
                with self.assertRaises(ValueError) as caught:
                    call()
                self.assertIs(type(caught.exception), getattr(sayso.errors, name))


if __name__ == "__main__":
    unittest.main()
