"""Sentences with tc made of machines without tapes."""

import copy
import random
import unittest

from machining import REACHES
from machining import WALKS
from machining import made_machine
from machining import made_structure
from machining import rows_of
from machining import told_accepts
from machining import told_machine_symbols
from samples import arguments
from samples import own
from samples import told_free
from samples import told_symbols
from samples import ways
from sayso.errors import BadArgument
from sayso.errors import TooLarge
from sayso.formulas import check_formula
from sayso.heads import sentence_of_heads
from sayso.meaning import cost
from sayso.meaning import holds
from sayso.structures import Structure


def digits(states):
    return next(count for count in range(13) if 2 ** count >= states)


def rows_of_edges():
    pairs = rows_of(2, 2)
    return [[pair for at, pair in enumerate(pairs) if number >> at & 1] for number in range(16)]


class TestSentence(unittest.TestCase):
    def made(self, machine):
        """The sentence of a machine, checked as far as no structure is needed."""
        before = copy.deepcopy(machine)
        found = sentence_of_heads(machine)
        self.assertEqual(machine, before)
        check_formula(found)
        self.assertEqual(told_free(found), [])
        self.assertEqual(told_symbols(found), told_machine_symbols(machine))
        kinds = [part[0] for part, _ in ways(found)]
        self.assertEqual([kinds.count(word) for word in ("tc", "lfp", "pfp", "guess")], [1, 0, 0, 0])
        closure = [part for part, _ in ways(found) if part[0] == "tc"][0]
        self.assertEqual(len(own(closure)), 2 * (machine[0] + digits(machine[2])))
        self.assertEqual(len(arguments(closure)), len(own(closure)))
        return found

    def agrees(self, machine, structure):
        """Whether the machine accepts, as the sentence says; None if this would take long to be found out."""
        sentence = self.made(machine)
        if cost(sentence, structure.size) > 400000:
            return None
        found = holds(sentence, structure, {})
        self.assertIs(found, told_accepts(machine, structure), (machine, structure.size, structure.relations))
        return found

    def test_known(self):
        for size in [2, 3, 4]:
            whole = Structure(size, [("p", 1, [(element,) for element in range(size)])])
            self.assertIs(self.agrees(WALKS, whole), True)
            self.assertIs(self.agrees(WALKS, Structure(size, [("p", 1, [(0,), (size - 1,)][:size - 1])])), False)
        for rows in rows_of_edges():
            self.assertIsNotNone(self.agrees(REACHES, Structure(2, [("e", 2, rows)])))

    def test_made_machines(self):
        source = random.Random(51)
        answers = {size: [] for size in [2, 3, 4]}
        for _ in range(900):
            heads = source.randrange(4)
            many = source.randrange(1, 5 - heads)
            states = source.randrange(2 ** (many - 1) + 1, 2 ** many + 1)
            size = source.choice([2, 2, 3, 4])
            machine = made_machine(source, heads, (), states, source.randrange(0, 13), 2, source.choice([1, 2, 4, 12]))
            answers[size].append(self.agrees(machine, made_structure(source, size)))
        for size in answers:
            self.assertGreater(min(answers[size].count(True), answers[size].count(False)), 15)

    def test_each_number_of_heads_and_states(self):
        # A machine of each size that goes through all states, and up with all heads at once.
        for heads in [0, 1, 2, 3]:
            for states in [2, 3, 4, 5, 8, 9, 16]:
                if heads + digits(states) > 4:
                    continue
                order = [0] + list(range(2, states)) + [1]
                rules = [(one, (), (), other) for one, other in zip(order, order[1:-1])]
                lasts = tuple(("last", head, True) for head in range(heads))
                if heads:
                    rules.append((order[-2], (("last", 0, False),), tuple(("up", head) for head in range(heads)), 0))
                rules.append((order[-2], lasts, (), 1))
                machine = (heads, (), states, tuple(rules))
                for less in [rules, rules[:-1], rules[1:], rules[:-2] + rules[-1:]]:
                    for size in [2, 3]:
                        self.agrees(machine[:3] + (tuple(less),), Structure(size, []))
                self.assertIs(self.agrees(machine, Structure(2, [])), True)

    def test_no_rules(self):
        for machine in [(0, (), 2, ()), (1, (), 3, ()), (3, (), 2, ()), (0, (), 16, ())]:
            self.assertIs(self.agrees(machine, Structure(2, [])), False)

    def test_rules_that_never_apply(self):
        for actions in [(("zero", 0), ("down", 0)), (("down", 0),), (("up", 0),) * 4, (("zero", 0), ("up", 0), ("down", 0), ("down", 0)),
                        (("up", 0), ("copy", 1, 0), ("down", 1), ("down", 1))]:
            machine = (2, (), 2, ((0, (("rel", "e", (0, 1), True),), actions, 1),))
            self.assertEqual(told_symbols(sentence_of_heads(machine)), [("e", 2)])
            for size in [2, 3, 4]:
                everything = Structure(size, [("e", 2, rows_of(size, 2))])
                self.agrees(machine, everything)
        for rule in [(2, (("rel", "f", (), True),), (), 1), (3, (("rel", "f", (), False),), (), 3)]:
            machine = (1, (), 4, WALKS[3] + (rule,))
            self.assertEqual(told_symbols(sentence_of_heads(machine)), [("f", 0), ("p", 1)])
            for rows in [[], [()]]:
                structure = Structure(2, [("p", 1, [(0,), (1,)]), ("f", 0, rows)])
                self.assertIs(self.agrees(machine, structure), True)

    def test_names_like_variables(self):
        names = [f"v{k}" for k in range(1, 13)]
        for name in names:
            machine = (1, (), 2, ((0, (("rel", name, (0,), True), ("last", 0, False)), (("up", 0),), 0),
                                  (0, (("rel", name, (0,), True), ("last", 0, True)), (), 1)))
            self.assertIs(self.agrees(machine, Structure(3, [(name, 1, [(0,), (1,), (2,)])])), True)
            self.assertIs(self.agrees(machine, Structure(3, [(name, 1, [(0,), (2,)])])), False)


class TestErrors(unittest.TestCase):
    def test_tapes(self):
        for machine in [(0, (0,), 2, ()), (5, (1,), 2, ())]:
            self.assertRaises(BadArgument, sentence_of_heads, machine)

    def test_too_large(self):
        for heads, states, large in [(3, 2, False), (3, 3, True), (2, 4, False), (2, 5, True), (1, 8, False), (1, 9, True), (0, 16, False),
                                     (0, 17, True), (4, 2, True), (12, 4000, True)]:
            machine = (heads, (), states, ((0, (), (), 1),))
            with self.subTest(machine):
                if large:
                    self.assertRaises(TooLarge, sentence_of_heads, machine)
                else:
                    self.assertIs(holds(sentence_of_heads(machine), Structure(2, []), {}), True)

    def test_never_too_large_within_the_told_numbers(self):
        source = random.Random(53)
        for _ in range(200):
            heads = source.randrange(1, 4)
            states = 2 ** (4 - heads)
            actions = [tuple((source.choice(["up", "down"]), source.randrange(heads)) for _ in range(2)) for _ in range(12)]
            conditions = [tuple(source.choice([("last", source.randrange(heads), False), ("rel", "e", (0,) * 6, False)]) for _ in range(2))
                          for _ in range(12)]
            rules = [(source.choice([0] + list(range(2, states))), one, other, source.randrange(states))
                     for one, other in zip(conditions, actions)]
            check_formula(sentence_of_heads((heads, (), states, tuple(rules))))

    def test_beyond_a_bound(self):
        # 12000 rules make more than 2000 parts, whatever is said of them.
        rules = tuple((0, (("rel", f"r{at}", (), True),), (), 1) for at in range(2500))
        self.assertRaises(TooLarge, sentence_of_heads, (0, (), 2, rules))
        # More than 40 rules are no more than may be joined.
        rules = tuple((0, (("rel", f"r{at}", (), True),), (), 1) for at in range(100))
        self.assertEqual(len(told_symbols(sentence_of_heads((0, (), 2, rules)))), 100)


if __name__ == "__main__":
    unittest.main()
