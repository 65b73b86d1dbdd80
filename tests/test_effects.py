"""What is said in formulas of the actions of a rule, against what they do."""

import random
import unittest

from machining import made_actions
from machining import made_plain
from machining import made_structure
from machining import rows_of
from machining import told_after
from machining import told_next
from sayso.effects import Effect
from sayso.effects import Teller
from sayso.formulas import symbols
from sayso.meaning import holds
from sayso.phrases import Order
from sayso.phrases import all_of
from sayso.phrases import any_of
from sayso.phrases import flagged
from sayso.phrases import there_are
from sayso.previous import Previous
from sayso.renaming import Names
from sayso.structures import Structure

KNOWN = [(), (("up", 0),), (("down", 1),), (("up", 0), ("up", 0)), (("up", 0), ("up", 0), ("down", 0)), (("copy", 1, 0), ("up", 1)),
         (("up", 0), ("copy", 1, 0), ("zero", 0)), (("up", 1), ("copy", 0, 1), ("up", 1)), (("up", 0), ("down", 0)),
         (("zero", 1), ("up", 1), ("up", 1)), (("copy", 0, 1), ("copy", 1, 0)), (("zero", 0), ("down", 0)), (("zero", 0), ("zero", 1)),
         (("zero", 0), ("up", 0), ("copy", 1, 0), ("down", 0)), (("up", 0),) * 3, (("down", 0),) * 3 + (("up", 0),) * 4,
         (("zero", 0), ("up", 0), ("down", 0), ("down", 0)), (("zero", 0), ("up", 0), ("zero", 0))]


class View:
    """States and tapes as relations of a structure."""

    def at_state(self, state, places):
        return ("rel", f"state{state}", tuple(places))

    def marked(self, tape, cell, flag):
        return flagged(("rel", f"tape{tape}", tuple(cell)), flag)


def orders():
    source = Names(["least", "greatest", "b0", "b1", "a0", "a1", "c0", "c1"], [])
    return [Order(source, None, None), Order(source, "least", "greatest")]


def all_cases():
    source = random.Random(61)
    return KNOWN + [made_actions(source, 2, (), 7) for _ in range(60)]


class TestMoves(unittest.TestCase):
    def values(self, size, before, after):
        return {"b0": before[0], "b1": before[1], "a0": after[0], "a1": after[1], "least": 0, "greatest": size - 1}

    def test_moves(self):
        for order in orders():
            teller = Teller(order, None)
            for actions in all_cases():
                formula = all_of(teller.moves(Effect(2, actions), ["b0", "b1"], ["a0", "a1"]))
                for size in [1, 2, 3]:
                    structure = Structure(size, [])
                    for before in rows_of(size, 2):
                        expected = told_after(actions, size, before, ())
                        for after in rows_of(size, 2):
                            self.assertIs(holds(formula, structure, self.values(size, before, after)),
                                          expected is not None and expected[0] == after, (actions, before, after))

    def test_bounds(self):
        for order in orders():
            teller = Teller(order, None)
            for actions in all_cases():
                formula = all_of(teller.bounds(Effect(2, actions), ["b0", "b1"], []))
                for size in [1, 2, 3, 4]:
                    for before in rows_of(size, 2):
                        self.assertIs(holds(formula, Structure(size, []), self.values(size, before, before)),
                                      told_after(actions, size, before, ()) is not None, (actions, before))

    def test_sources(self):
        for order in orders():
            teller = Teller(order, None)
            for actions in all_cases():
                effect = Effect(2, actions)
                before, lost = teller.sources(2, effect.ends, ["a0", "a1"])
                formula = there_are(lost, teller.moves(effect, before, ["a0", "a1"]) + [("eq", before[0], "b0"), ("eq", before[1], "b1")])
                for start in rows_of(3, 2):
                    expected = told_after(actions, 3, start, ())
                    for after in rows_of(3, 2):
                        self.assertIs(holds(formula, Structure(3, []), self.values(3, start, after)),
                                      expected is not None and expected[0] == after, (actions, start, after))

    def test_what_is_told_by_the_moves(self):
        teller = Teller(orders()[1], None)
        rule = (0, (("last", 0, False), ("last", 1, False), ("last", 0, True)), (("up", 0),), 1)
        effect = Effect(2, rule[2])
        self.assertEqual(teller.applying(rule, effect, ["b0", "b1"]), [("not", ("eq", "b1", "greatest")), ("eq", "b0", "greatest")])
        for actions in [(("down", 0),), (), (("zero", 0), ("up", 0)), (("copy", 0, 1), ("up", 0), ("down", 0))]:
            told = teller.applying((0, (("last", 0, False),), actions, 1), Effect(2, actions), ["b0", "b1"])
            self.assertEqual(told, [("not", ("eq", "b0", "greatest"))])


class TestCells(unittest.TestCase):
    def test_after_a_step(self):
        # Where a plain machine was is told by the relations state0 and state2 of its heads, which have one tuple.
        source = random.Random(62)
        tapes = (1, 0, 2)
        checked = []
        for _ in range(600):
            machine = made_plain(source, 2, tapes, 4, 5, source.choice([0, 1, 2]))
            marks = tuple(tuple(row for row in rows_of(2, arity) if source.random() < 0.5) for arity in tapes)
            here = (source.choice([0, 2]), tuple(source.randrange(2) for _ in range(2)), marks)
            structure = made_structure(source, 2)
            following = told_next(machine, structure, here)
            if not following:
                continue
            after = following[0][1]
            structure = Structure(2, structure.relations[:2] + [
                (f"state{state}", 2, [here[1]] if state == here[0] else []) for state in (0, 2, 3)])
            for tape, arity in enumerate(tapes):
                own = Structure(2, structure.relations + [(f"tape{tape}", arity, list(marks[tape]))])
                checked.extend(self.agrees(machine, own, tape, arity, after))
        for tape in range(3):
            self.assertGreater(checked.count(tape), 100)

    def agrees(self, machine, structure, tape, arity, after):
        """Check what is said of a tape, if the machine looks at no other one, and at no other relation; tell how often."""
        names = [name for name, _ in structure.symbols()]
        checked = []
        for order in orders():
            previous = Previous(machine, order, View())
            for flag in [True, False]:
                cell = ["c0", "c1"][:arity]
                formula = any_of(previous.cell_ways(tape, cell, flag))
                if all(name in names for name, _ in symbols(formula)):
                    for row in rows_of(2, arity):
                        values = {**dict(zip(cell, row)), "least": 0, "greatest": 1}
                        self.assertIs(holds(formula, structure, values), (row in after[2][tape]) is flag, (machine, tape, row))
                        checked.append(tape)
        return checked

    def test_not_written(self):
        for order in orders():
            teller = Teller(order, None)
            for actions in all_cases():
                effect = Effect(2, actions + (("write", 0, (1, 0), True),))
                formula = teller.not_written(effect.writes[0][1], ["b0", "b1"], ["c0", "c1"])
                for before in rows_of(3, 2):
                    told = told_after(actions, 3, before, ())
                    for cell in rows_of(3, 2) if told is not None else []:
                        values = {"b0": before[0], "b1": before[1], "c0": cell[0], "c1": cell[1], "least": 0, "greatest": 2}
                        self.assertIs(holds(formula, Structure(3, []), values), told[0][::-1] != cell)


class TestOrder(unittest.TestCase):
    def test_next_rows(self):
        for order in orders():
            for count in [1, 2, 3]:
                before, after = [f"b{k}" for k in range(count)], [f"a{k}" for k in range(count)]
                formula = order.next_rows(before, after)
                for size in [1, 2, 3] if count < 3 else [2]:
                    rows = rows_of(size, count)
                    for at, one in enumerate(rows):
                        for place, other in enumerate(rows):
                            values = {**dict(zip(before, one)), **dict(zip(after, other)), "least": 0, "greatest": size - 1}
                            self.assertIs(holds(formula, Structure(size, []), values), place == at + 1)

    def test_steps_and_ends(self):
        for order in orders():
            for count in range(6):
                formulas = all_of(order.steps("b0", "a0", count)), all_of(order.above_least("a0", count))
                for low in range(4):
                    for high in range(4):
                        values = {"b0": low, "a0": high, "least": 0, "greatest": 3}
                        self.assertIs(holds(formulas[0], Structure(4, []), values), high == low + count)
                        self.assertIs(holds(formulas[1], Structure(4, []), values), high == count)
            for row in rows_of(3, 2):
                values = {"b0": row[0], "b1": row[1], "least": 0, "greatest": 2}
                for variables, chosen in [(["b0", "b1"], row), (["b1"], row[1:])]:
                    for formula, expected in [(all_of(order.are_least(variables)), not any(chosen)),
                                              (order.are_not_least(variables), any(chosen)),
                                              (all_of(order.are_greatest(variables)), set(chosen) == {2}),
                                              (order.are_not_greatest(variables), set(chosen) != {2})]:
                        self.assertIs(holds(formula, Structure(3, []), values), expected)

    def test_ends_told(self):
        formula = orders()[1].ends_told()
        for least, greatest in rows_of(3, 2):
            self.assertIs(holds(formula, Structure(3, []), {"least": least, "greatest": greatest}), (least, greatest) == (0, 2))

    def test_joined(self):
        for count in [0, 1, 2, 40, 41, 80, 1601]:
            parts = [("rel", f"r{at}", ()) for at in range(count)]
            for word, join in [("and", all_of), ("or", any_of)]:
                found, left = join(parts), []
                stack = [found]
                while stack:
                    part = stack.pop()
                    if part[0] == word:
                        self.assertLessEqual(len(part[1]), 40)
                        stack.extend(reversed(part[1]))
                    else:
                        left.append(part)
                self.assertEqual(left, parts)


if __name__ == "__main__":
    unittest.main()
