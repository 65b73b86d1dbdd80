import ast
import copy
import importlib
import inspect
import pathlib
import unittest

from machining import COUNTER
from machining import WALKS
from samples import KINDS
from samples import TRUE
from sayso import clocks
from sayso import fixed
from sayso import formulas
from sayso import forms
from sayso import games
from sayso import guesses
from sayso import heads
from sayso import machines
from sayso import meaning
from sayso import room
from sayso.structures import Structure
from sayso.structures import format_structure

PACKAGE = pathlib.Path(__file__).resolve().parent.parent / "sayso"

# The interface: functions with their arguments, and classes with those of their methods.
FUNCTIONS = {
    "structures": {"is_name": ["text"], "format_structure": ["structure"], "parse_structure": ["text"]},
    "formulas": {
        "check_formula": ["formula"], "free": ["formula"], "symbols": ["formula"], "positive": ["formula", "name"],
        "parts": ["formula"], "depth": ["formula"], "rank": ["formula"], "width": ["formula"],
        "is_first_order": ["formula"], "format_formula": ["formula"], "parse_formula": ["text"],
    },
    "meaning": {
        "cost": ["formula", "n"], "holds": ["formula", "structure", "values"], "query": ["formula", "structure", "variables"],
    },
    "forms": {
        "inward": ["formula"], "apart": ["formula"], "prenex": ["formula"],
        "replaced": ["formula", "name", "variables", "body"],
    },
    "fixed": {
        "check_system": ["system"], "solve": ["system", "structure"], "stages": ["system", "structure"],
        "one_formula": ["system", "index"],
    },
    "games": {
        "is_sound": ["first", "second", "position"], "is_keeping": ["first", "second", "k", "table"],
        "length": ["first", "second", "position"], "keeping_table": ["first", "second", "k"], "parting": ["first", "second", "k"],
    },
    "machines": {
        "check_machine": ["machine"], "is_plain": ["machine"], "machine_symbols": ["machine"], "first_configuration": ["machine"],
        "next_configurations": ["machine", "structure", "configuration"], "run": ["machine", "structure", "most"],
    },
    "heads": {
        "accepts": ["machine", "structure"], "path": ["machine", "structure"], "refusal": ["machine", "structure"],
        "is_refusal": ["machine", "structure", "levels"], "sentence_of_heads": ["machine"], "heads_of_sentence": ["sentence"],
    },
    "clocks": {"clock_of_sentence": ["sentence"], "system_of_clock": ["machine", "c"]},
    "guesses": {
        "accepts_some": ["machine", "structure", "most"], "machine_of_guess": ["sentence"],
        "system_of_guess": ["machine", "c", "name"],
    },
    "room": {"sentence_of_room": ["machine"], "room_of_sentence": ["sentence"]},
}
CLASSES = {
    "structures": {"Structure": {
        "__init__": ["self", "size", "relations"], "__eq__": ["self", "other"], "has": ["self", "name", "row"],
        "with_relation": ["self", "name", "arity", "tuples"], "renamed": ["self", "permutation"], "symbols": ["self"],
    }},
    "errors": {name: {} for name in ["SaysoError", "BadStructure", "BadFormula", "BadText", "BadArgument", "BadMachine",
                                     "NotFitting", "TooLarge", "BadLine"]},
    "desk": {"Desk": {"__init__": ["self"], "do": ["self", "line"]}},
}


def defined(module, kind):
    tree = ast.parse((PACKAGE / f"{module}.py").read_text())
    return {node.name: node for node in tree.body if isinstance(node, kind)}


class TestInterface(unittest.TestCase):
    def test_functions(self):
        for module, told in FUNCTIONS.items():
            found = defined(module, ast.FunctionDef)
            for name, arguments in told.items():
                with self.subTest(module=module, name=name):
                    self.assertIn(name, found)
                    function = getattr(importlib.import_module(f"sayso.{module}"), name)
                    self.assertEqual(list(inspect.signature(function).parameters), arguments)

    def test_classes(self):
        for module, told in CLASSES.items():
            found = defined(module, ast.ClassDef)
            for name, methods in told.items():
                self.assertIn(name, found)
                bodies = {node.name: node for node in found[name].body if isinstance(node, ast.FunctionDef)}
                for method, arguments in methods.items():
                    with self.subTest(module=module, name=name, method=method):
                        self.assertEqual([argument.arg for argument in bodies[method].args.args], arguments)


class TestGeneral(unittest.TestCase):
    def test_arguments_stay(self):
        structure = Structure(3, [("e", 2, [(0, 1)]), ("p", 1, [])])
        before = copy.deepcopy((structure.size, structure.relations))
        structure.has("e", (0, 1))
        structure.with_relation("e", 1, [])
        structure.renamed([1, 2, 0])
        structure.symbols().append(("q", 0))
        format_structure(structure)
        self.assertEqual((structure.size, structure.relations), before)

    def test_lists_are_new(self):
        for formula, _ in KINDS:
            for function in [formulas.free, formulas.symbols]:
                self.assertIsInstance(function(formula), list)
                self.assertIsNot(function(formula), function(formula))
        structure = Structure(2, [("e", 2, [])])
        self.assertIsNot(structure.symbols(), structure.symbols())
        self.assertIsNot(structure.with_relation("e", 2, []).relations, structure.relations)

        self.assertIsNot(meaning.query(TRUE, structure, ["x"]), meaning.query(TRUE, structure, ["x"]))

    def test_arguments_of_formulas_and_systems_stay(self):
        structure = Structure(2, [("e", 2, [(0, 1)])])
        body = ("some", ("x",), ("not", ("and", (("rel", "e", ("x", "y")), ("rel", "r", ("y",)), ("not", ("rel", "r", ("y",)))))))
        system = [("s", ("y",), ("some", ("x",), ("and", (("rel", "e", ("x", "y")), ("rel", "t", ("x",)))))), ("t", ("x",), TRUE)]
        values, variables = {"y": 1, "x": None}, ["y", "x"]
        structure = structure.with_relation("r", 1, [(0,)])
        told = (body, system, values, variables, structure.size, structure.relations)
        before = copy.deepcopy(told)
        meaning.holds(body, structure, values)
        meaning.query(body, structure, variables).append(None)
        forms.inward(body)
        forms.apart(("and", (body, body)))
        forms.prenex(body)
        forms.replaced(body, "r", ("x",), body[:1] + (("z",), ("rel", "e", ("x", "z"))))
        fixed.check_system(system)
        fixed.solve(system, structure).append(None)
        fixed.stages(system, structure)[-1].append(None)
        fixed.one_formula(system, 1)
        self.assertEqual(told, before)

    def test_arguments_of_games_stay(self):
        first = Structure(2, [("e", 2, [(0, 1)]), ("p", 1, [])])
        second = Structure(3, [("p", 1, [(2,)]), ("e", 2, [])])
        table = games.keeping_table(first, first, 1)[::-1]
        told = (first.relations, second.relations, table)
        before = copy.deepcopy(told)
        games.is_sound(first, second, ((0, 1), None))
        games.is_keeping(first, first, 1, table)
        games.length(first, second, (None, (0, 1)))
        games.keeping_table(first, first, 2).clear()
        games.parting(first, second, 2)
        self.assertEqual(told, before)

    def test_arguments_of_machines_stay(self):
        structure = Structure(2, [("e", 2, [(0, 1)]), ("p", 1, [(0,), (1,)])])
        levels = heads.refusal(WALKS, structure.with_relation("p", 1, []))
        here = (0, (0,), (((1,),),))
        told = (structure.relations, levels, WALKS, COUNTER, here)
        before = copy.deepcopy(told)
        machines.next_configurations(COUNTER, structure, here).append(None)
        machines.run(COUNTER, structure, 5)
        heads.accepts(WALKS, structure)
        heads.path(WALKS, structure).append(None)
        heads.is_refusal(WALKS, structure, levels)
        heads.sentence_of_heads(WALKS)
        clocks.system_of_clock(COUNTER, 2).append(None)
        guesses.accepts_some(COUNTER, structure, 5).append(None)
        guesses.system_of_guess(COUNTER, 1, "g").append(None)
        room.sentence_of_room(COUNTER)
        self.assertEqual(told, before)
        self.assertEqual(machines.run(COUNTER, structure, 5), machines.run(COUNTER, structure, 5))

    def test_answers_of_machines_are_of_their_kinds(self):
        structure = Structure(2, [("p", 1, [(0,), (1,)])])
        self.assertIs(type(machines.machine_symbols(WALKS)), list)
        self.assertIs(type(machines.next_configurations(WALKS, structure, (0, (0,), ()))), list)
        self.assertIs(type(machines.next_configurations(WALKS, structure, (0, (0,), ()))[0]), tuple)
        self.assertIs(type(machines.is_plain(WALKS)), bool)
        self.assertIs(type(heads.accepts(WALKS, structure)), bool)
        self.assertIs(type(heads.path(WALKS, structure)), list)
        self.assertIs(type(guesses.accepts_some(COUNTER, structure, 9)), list)
        self.assertIs(type(clocks.system_of_clock(WALKS, 1)), list)
        for value in [heads.sentence_of_heads(WALKS), room.sentence_of_room(WALKS), heads.heads_of_sentence(TRUE),
                      clocks.clock_of_sentence(TRUE), machines.run(WALKS, structure, 1), machines.first_configuration(WALKS)]:
            self.assertIs(type(value), tuple)

    def test_answers_of_meaning_are_of_their_kinds(self):
        structure = Structure(2, [("e", 2, [(0, 1)]), ("q", 0, [()])])
        values = {"x": 0, "y": 1, "y1": 1, "a": 0, "b": 1, "and3": 0}
        for formula, _ in KINDS:
            self.assertIs(type(meaning.cost(formula, 3)), int)
            if formulas.symbols(formula) in ([], [("e", 2)]):
                self.assertIs(type(meaning.holds(formula, structure, values)), bool)
                found = meaning.query(formula, structure, sorted(formulas.free(formula)))
                self.assertIs(type(found), list)
                self.assertTrue(all(type(row) is tuple for row in found))

    def test_numbers_and_answers_are_of_their_kinds(self):
        for formula, _ in KINDS:
            for function in [formulas.parts, formulas.depth, formulas.rank, formulas.width]:
                self.assertIs(type(function(formula)), int)
            self.assertIs(type(formulas.is_first_order(formula)), bool)
            self.assertIs(type(formulas.positive(formula, "r")), bool)


if __name__ == "__main__":
    unittest.main()
