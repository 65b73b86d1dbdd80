"""Configurations, when a rule applies and where it leads, and runs of plain machines."""

import copy
import random
import unittest

from machining import COUNTER
from machining import REACHES
from machining import WALKS
from machining import made_actions
from machining import made_machine
from machining import made_plain
from machining import made_structure
from machining import rows_of
from machining import told_first
from machining import told_next
from machining import told_run
from sayso.errors import BadArgument
from sayso.errors import NotFitting
from sayso.errors import TooLarge
from sayso.machines import first_configuration
from sayso.machines import next_configurations
from sayso.machines import run
from sayso.structures import Structure

PATH = Structure(3, [("e", 2, [(0, 1), (1, 2)]), ("p", 1, [(0,), (2,)]), ("q", 0, [()])])


def one_rule(conditions, actions, heads=2, tapes=(1, 0, 2)):
    return (heads, tapes, 3, ((0, tuple(conditions), tuple(actions), 2),))


class TestFirst(unittest.TestCase):
    def test_first(self):
        self.assertEqual(first_configuration((0, (), 2, ())), (0, (), ()))
        self.assertEqual(first_configuration((3, (1, 0, 6), 5, ())), (0, (0, 0, 0), ((), (), ())))
        self.assertEqual(first_configuration(COUNTER), (0, (0,), ((),)))


class TestNext(unittest.TestCase):
    def goes(self, conditions, actions, stands, marks, after):
        """Whether a rule applies there, and leads to these elements and marks; nothing if it does not apply."""
        machine = one_rule(conditions, actions)
        expected = [] if after is None else [(0, (2,) + after)]
        self.assertEqual(next_configurations(machine, PATH, (0, stands, marks)), expected, (conditions, actions, stands))
        self.assertEqual(told_next(machine, PATH, (0, stands, marks)), expected)

    def test_conditions(self):
        marks = (((1,), (2,)), ((),), ((0, 1), (2, 0)))
        for condition, stands, holds in [
                (("rel", "e", (0, 1)), (0, 1), True), (("rel", "e", (1, 0)), (0, 1), False), (("rel", "e", (0, 0)), (1, 1), False),
                (("rel", "p", (1,)), (1, 2), True), (("rel", "p", (0,)), (1, 2), False), (("rel", "q", ()), (0, 0), True),
                (("eq", 0, 1), (2, 2), True), (("eq", 0, 1), (2, 1), False), (("eq", 1, 1), (0, 2), True),
                (("less", 0, 1), (0, 2), True), (("less", 0, 1), (2, 0), False), (("less", 0, 1), (1, 1), False),
                (("less", 1, 0), (2, 0), True), (("last", 0), (2, 0), True), (("last", 0), (1, 2), False), (("last", 1), (0, 2), True),
                (("mark", 0, (0,)), (1, 0), True), (("mark", 0, (1,)), (1, 0), False), (("mark", 1, ()), (0, 0), True),
                (("mark", 2, (0, 1)), (0, 1), True), (("mark", 2, (1, 0)), (0, 1), False), (("mark", 2, (0, 0)), (0, 1), False)]:
            self.goes([condition + (True,)], [], stands, marks, (stands, marks) if holds else None)
            self.goes([condition + (False,)], [], stands, marks, None if holds else (stands, marks))

    def test_all_conditions_are_needed(self):
        empty = ((), (), ())
        yes, no = ("eq", 0, 0, True), ("last", 0, True)
        self.goes([yes, yes], [], (0, 0), empty, ((0, 0), empty))
        for conditions in [[yes, no], [no, yes], [no, no]]:
            self.goes(conditions, [], (0, 0), empty, None)

    def test_heads_move(self):
        empty = ((), (), ())
        for actions, stands, after in [
                ([("up", 0)], (0, 1), (1, 1)), ([("up", 0)], (2, 1), None), ([("down", 1)], (0, 1), (0, 0)),
                ([("down", 0)], (0, 1), None), ([("zero", 1)], (2, 2), (2, 0)), ([("zero", 1)], (2, 0), (2, 0)),
                ([("copy", 0, 1)], (0, 2), (2, 2)), ([("copy", 1, 1)], (0, 2), (0, 2)),
                ([("up", 0), ("up", 0)], (0, 0), (2, 0)), ([("up", 0), ("up", 0)], (1, 0), None),
                ([("up", 0), ("down", 0)], (2, 0), None), ([("down", 0), ("up", 0)], (2, 0), (2, 0)),
                ([("down", 0), ("up", 0)], (0, 0), None), ([("zero", 0), ("down", 0)], (2, 0), None),
                ([("zero", 0), ("up", 0), ("up", 0), ("copy", 1, 0), ("down", 0)], (1, 1), (1, 2)),
                ([("copy", 0, 1), ("copy", 1, 0)], (1, 2), (2, 2)), ([("up", 1), ("copy", 0, 1), ("up", 0)], (0, 0), (2, 1)),
                ([("up", 1), ("copy", 0, 1), ("up", 0)], (0, 1), None)]:
            self.goes([], actions, stands, empty, None if after is None else (after, empty))

    def test_marks(self):
        before = (((1,),), (), ((0, 2), (2, 0)))
        for actions, stands, after in [
                ([("write", 0, (0,), True)], (0, 0), (((0,), (1,)), (), ((0, 2), (2, 0)))),
                ([("write", 0, (0,), True)], (1, 0), before),
                ([("write", 0, (0,), False)], (1, 0), ((), (), ((0, 2), (2, 0)))),
                ([("write", 0, (0,), False)], (2, 0), before),
                ([("write", 1, (), True), ("write", 1, (), True)], (0, 0), (((1,),), ((),), ((0, 2), (2, 0)))),
                ([("write", 1, (), True), ("write", 1, (), False)], (0, 0), before),
                ([("write", 2, (0, 1), True), ("write", 2, (1, 1), True)], (1, 0), (((1,),), (), ((0, 0), (0, 2), (1, 0), (2, 0)))),
                ([("write", 2, (1, 0), False), ("write", 2, (0, 1), False)], (2, 0), (((1,),), (), ()))]:
            self.goes([], actions, stands, before, (stands, after))

    def test_writes_stand_where_the_heads_are_then(self):
        empty = ((), (), ())
        actions = [("write", 0, (0,), True), ("up", 0), ("write", 2, (0, 1), True), ("write", 0, (0,), True)]
        self.goes([], actions, (0, 2), empty, ((1, 2), (((0,), (1,)), (), ((1, 2),))))
        self.goes([], actions, (2, 2), empty, None)

    def test_several_rules(self):
        rules = ((0, (), (("up", 0),), 1), (2, (), (), 1), (0, (("last", 0, True),), (), 0), (0, (), (("copy", 0, 0), ("up", 0)), 1),
                 (0, (("rel", "p", (0,), True),), (), 2), (0, (("rel", "p", (0,), False),), (), 2))
        machine = (1, (), 3, rules)
        self.assertEqual(next_configurations(machine, PATH, (0, (0,), ())), [(0, (1, (1,), ())), (3, (1, (1,), ())), (4, (2, (0,), ()))])
        self.assertEqual(next_configurations(machine, PATH, (0, (2,), ())), [(2, (0, (2,), ())), (4, (2, (2,), ()))])
        self.assertEqual(next_configurations(machine, PATH, (1, (2,), ())), [])

    def test_against_the_second(self):
        source = random.Random(11)
        several = 0
        for _ in range(400):
            tapes = tuple(source.choice([0, 1, 2]) for _ in range(source.randrange(3)))
            heads = source.randrange(4)
            machine = made_machine(source, heads, tapes, 3, source.randrange(9), 2, 4)
            structure = made_structure(source, source.randrange(1, 5))
            size = structure.size
            for _ in range(5):
                marks = tuple(tuple(row for row in rows_of(size, arity) if source.random() < 0.4) for arity in tapes)
                here = (source.randrange(3), tuple(source.randrange(size) for _ in range(heads)), marks)
                before = copy.deepcopy((machine, here, structure.relations))
                found = next_configurations(machine, structure, here)
                self.assertEqual(found, told_next(machine, structure, here))
                self.assertEqual((machine, here, structure.relations), before)
                several += len(found) > 1
        self.assertGreater(several, 100)

    def test_no_configurations(self):
        machine = one_rule([], [])
        good = (0, (0, 2), (((0,), (2,)), ((),), ((0, 1), (1, 0))))
        self.assertEqual(len(next_configurations(machine, PATH, good)), 1)
        self.assertEqual(next_configurations(machine, PATH, (2,) + good[1:]), [])
        state, stands, marks = good
        for wrong in [None, 0, [], (), list(good), good[:2], good + ((),),
                      (3, stands, marks), (-1, stands, marks), (True, stands, marks), (None, stands, marks), ("0", stands, marks),
                      (0, [0, 2], marks), (0, (0,), marks), (0, (0, 2, 0), marks), (0, (0, 3), marks), (0, (-1, 0), marks),
                      (0, (True, 0), marks), (0, (0, None), marks), (0, None, marks), (0, 0, marks),
                      (0, stands, list(marks)), (0, stands, marks[:2]), (0, stands, marks + ((),)), (0, stands, None)]:
            with self.subTest(wrong):
                self.assertRaises(BadArgument, next_configurations, machine, PATH, wrong)
        for at, cells in [(0, [(0,)]), (0, ((2,), (0,))), (0, ((0,), (0,))), (0, ((3,),)), (0, ((True,),)), (0, ((0, 0),)), (0, ((),)),
                          (0, (0,)), (0, ([0],)), (0, None), (1, ((), ())), (1, ((0,),)), (1, ()), (2, ((1, 0), (0, 1))), (2, ((0,),)),
                          (2, ((0, -1),)), (2, ((0, False),))]:
            wrong = (0, stands, marks[:at] + (cells,) + marks[at + 1:])
            with self.subTest(wrong):
                if (at, cells) == (1, ()):
                    self.assertEqual(len(next_configurations(machine, PATH, wrong)), 1)
                else:
                    self.assertRaises(BadArgument, next_configurations, machine, PATH, wrong)

    def test_not_fitting(self):
        for name, arity in [("f", 1), ("e", 1), ("p", 2), ("q", 1)]:
            machine = one_rule([("rel", name, (0,) * arity, True)], [])
            self.assertRaises(NotFitting, next_configurations, machine, PATH, first_configuration(machine))
            self.assertRaises(BadArgument, next_configurations, machine, PATH, None)
            self.assertRaises(NotFitting, run, machine, PATH, 0)
        # Symbols in rules of a state that is never reached count, too.
        machine = (0, (), 5, ((4, (("rel", "f", (), True),), (), 1),))
        self.assertRaises(NotFitting, run, machine, PATH, 0)


class TestRun(unittest.TestCase):
    def test_accepts_stops_and_goes_on(self):
        structure = Structure(4, [("p", 1, [(0,), (1,), (2,), (3,)])])
        self.assertEqual(run(WALKS, structure, 10), ("accepts", 4, (1, (3,), ())))
        self.assertEqual(run(WALKS, structure, 4), ("accepts", 4, (1, (3,), ())))
        self.assertEqual(run(WALKS, structure, 3), ("goes on", 3, (0, (3,), ())))
        self.assertEqual(run(WALKS, structure, 0), ("goes on", 0, (0, (0,), ())))
        structure = Structure(4, [("p", 1, [(0,), (1,), (3,)])])
        self.assertEqual(run(WALKS, structure, 10), ("stops", 2, (0, (2,), ())))
        self.assertEqual(run(WALKS, structure, 2), ("stops", 2, (0, (2,), ())))
        self.assertEqual(run(WALKS, structure, 1), ("goes on", 1, (0, (1,), ())))

    def test_no_steps(self):
        structure = Structure(2, [])
        self.assertEqual(run((0, (), 2, ()), structure, 0), ("stops", 0, (0, (), ())))
        self.assertEqual(run((1, (0,), 2, ()), structure, 200000), ("stops", 0, (0, (0,), ((),))))
        self.assertEqual(run((0, (), 2, ((0, (), (), 1),)), structure, 0), ("goes on", 0, (0, (), ())))
        self.assertEqual(run((0, (), 2, ((0, (), (), 1),)), structure, 1), ("accepts", 1, (1, (), ())))
        # A rule whose conditions hold does not apply if a head would go beyond the elements.
        self.assertEqual(run((1, (), 2, ((0, (), (("down", 0),), 1),)), structure, 0), ("stops", 0, (0, (0,), ())))

    def test_for_ever(self):
        machine = (1, (1,), 2, ((0, (("mark", 0, (0,), False),), (("write", 0, (0,), True),), 0),
                                (0, (("mark", 0, (0,), True),), (("write", 0, (0,), False),), 0)))
        self.assertEqual(run(machine, Structure(1, []), 200000), ("goes on", 200000, (0, (0,), ((),))))
        self.assertEqual(run(machine, Structure(1, []), 199999), ("goes on", 199999, (0, (0,), (((0,),),))))

    def test_counter(self):
        for size in [1, 2, 3, 5, 8]:
            word, steps, configuration = run(COUNTER, Structure(size, []), 200000)
            self.assertEqual((word, configuration), ("accepts", (1, (size - 1,), ((),))))
            self.assertGreaterEqual(steps, 2 ** size)
            self.assertEqual(run(COUNTER, Structure(size, []), steps)[0], "accepts")
            self.assertEqual(run(COUNTER, Structure(size, []), steps - 1)[:2], ("goes on", steps - 1))

    def test_against_the_second(self):
        source = random.Random(12)
        words = []
        for _ in range(500):
            tapes = tuple(source.choice([0, 1, 2]) for _ in range(source.randrange(3)))
            machine = made_plain(source, source.randrange(4), tapes, source.randrange(2, 6), 3, source.randrange(1, 4))
            structure = made_structure(source, source.randrange(1, 5))
            most = source.choice([0, 1, 2, 5, 40])
            before = copy.deepcopy((machine, structure.relations))
            found = run(machine, structure, most)
            self.assertEqual(found, told_run(machine, structure, most))
            self.assertIs(type(found), tuple)
            self.assertEqual((machine, structure.relations), before)
            words.append(found[0] if found[1] else "none")
        for word in ["accepts", "stops", "goes on", "none"]:
            self.assertGreater(words.count(word), 40)

    def test_wrong_arguments(self):
        structure = Structure(2, [])
        self.assertRaises(BadArgument, run, REACHES, structure, 1)
        self.assertRaises(BadArgument, run, REACHES, structure, -1)
        for most in [-1, 200001, True, False, None, "1", 1.0, (1,)]:
            self.assertRaises(BadArgument, run, COUNTER, structure, most)
            self.assertRaises(BadArgument, run, WALKS, structure, most)
        self.assertRaises(NotFitting, run, WALKS, structure, 200000)

    def test_too_large(self):
        for size, arity, large in [(16, 3, False), (16, 4, True), (4, 6, False), (5, 6, True), (8, 4, False), (9, 4, True),
                                   (1, 6, False), (6, 5, True), (5, 5, False)]:
            for tapes in [(arity,), (0, arity), (arity, 1)]:
                machine = (0, tapes, 2, ((0, (), (), 1),))
                with self.subTest(size=size, tapes=tapes):
                    if large:
                        self.assertRaises(TooLarge, run, machine, Structure(size, []), 5)
                    else:
                        self.assertEqual(run(machine, Structure(size, []), 5)[0], "accepts")
        wrong = (0, (4,), 2, ((0, (("rel", "e", (), True),), (), 1),))
        self.assertRaises(NotFitting, run, wrong, Structure(16, []), 5)
        self.assertRaises(BadArgument, run, wrong, Structure(16, []), None)

    def test_all_actions_together(self):
        source = random.Random(13)
        structure = Structure(3, [])
        for _ in range(200):
            rule = (0, (), made_actions(source, 3, (1, 2, 0), 12), 1)
            machine = (3, (1, 2, 0), 2, (rule,))
            self.assertEqual(next_configurations(machine, structure, told_first(machine)),
                             told_next(machine, structure, told_first(machine)))


if __name__ == "__main__":
    unittest.main()
