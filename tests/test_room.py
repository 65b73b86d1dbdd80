"""Sentences with pfp made of plain machines, and machines made of such sentences."""

import copy
import random
import unittest

from fitting import Maker
from fitting import made_structure
from fitting import symbol_names
from machining import COUNTER
from machining import REACHES
from machining import WALKS
from machining import made_plain
from machining import rows_of
from machining import told_machine_symbols
from machining import told_run
from samples import TRUE
from samples import arguments
from samples import own
from samples import told_free
from samples import told_symbols
from samples import ways
from sayso.errors import BadArgument
from sayso.errors import BadFormula
from sayso.errors import TooLarge
from sayso.evaluation import row_test
from sayso.evaluation import scope_of
from sayso.formulas import check_formula
from sayso.formulas import parse_formula
from sayso.machines import is_plain
from sayso.machines import run
from sayso.meaning import cost
from sayso.meaning import holds
from sayso.room import room_of_sentence
from sayso.room import sentence_of_room
from sayso.structures import Structure
from second import relations_of
from second import told
from second import told_cost
from second import told_stage
from sentences import PLAIN_KINDS
from sentences import bound_count
from sentences import filled
from sentences import told_parts

import machining


def digits(number):
    return next(count for count in range(20) if 2 ** count >= number)


def numbers(machine):
    """The numbers m and w of a machine."""
    return digits(machine[2] + len(machine[1])), max((1, machine[0]) + machine[1])


class TestSentence(unittest.TestCase):
    def made(self, machine):
        """The sentence of a machine, checked as far as no structure is needed."""
        before = copy.deepcopy(machine)
        found = sentence_of_room(machine)
        self.assertEqual(machine, before)
        check_formula(found)
        self.assertEqual(told_free(found), [])
        self.assertEqual(told_symbols(found), told_machine_symbols(machine))
        kinds = [part[0] for part, _ in ways(found)]
        self.assertEqual([kinds.count(word) for word in ("pfp", "lfp", "tc", "guess")], [1, 0, 0, 0])
        fixed = [part for part, _ in ways(found) if part[0] == "pfp"][0]
        self.assertEqual(len(own(fixed)), sum(numbers(machine)))
        self.assertEqual(len(arguments(fixed)), len(own(fixed)))
        return found

    def agrees(self, machine, structure):
        """The word of the run, as the sentence says; None if this would take long to be found out."""
        sentence = self.made(machine)
        word = told_run(machine, structure, 3000)[0]
        size = structure.size
        if size ** sum(numbers(machine)) <= 12 and cost(sentence, size) <= 3 * 10 ** 5:
            found = holds(sentence, structure, {})
        elif size ** sum(numbers(machine)) <= 64:
            # This is what `holds` does, but for the bounds of its work, of which few stages need all.
            found = row_test(sentence, [], scope_of(structure))(())
        else:
            return None
        self.assertIs(found, word == "accepts", (machine, structure.relations))
        return word

    def test_known(self):
        for size in [2, 3]:
            for rows in rows_of(2, size):
                structure = Structure(size, [("p", 1, [(at,) for at in range(size) if rows[at]])])
                self.assertEqual(self.agrees(WALKS, structure), "accepts" if all(rows) else "stops")

    def test_for_ever(self):
        for rules in [((0, (), (), 0),), ((0, (("last", 0, False),), (("up", 0),), 0), (0, (("last", 0, True),), (("zero", 0),), 0)),
                      ((0, (), (), 2), (2, (), (), 0)), ((0, (), (), 2), (2, (("last", 0, False),), (("up", 0),), 2), (2, (("last", 0, True),), (), 2))]:
            self.assertEqual(self.agrees((1, (), 3, rules), Structure(2, [])), "goes on")

    def test_counter(self):
        self.assertEqual(self.agrees(COUNTER, Structure(2, [])), "accepts")
        self.assertEqual(self.agrees(COUNTER[:3] + (COUNTER[3][:2],), Structure(2, [])), "stops")
        again = COUNTER[3][:2] + (COUNTER[3][2][:3] + (0,),)
        self.assertEqual(self.agrees(COUNTER[:3] + (again,), Structure(2, [])), "goes on")

    def test_written_and_unwritten(self):
        structure = Structure(2, [])
        for flag in [True, False]:
            for wait in [True, False]:
                rules = ((0, (), (("write", 0, (0,), True), ("up", 0)), 2),
                         (2, (), (("down", 0),) + ((("write", 0, (0,), False),) if wait else ()), 3 if wait else 4),
                         (3, (("mark", 0, (0,), flag),), (), 1), (4, (("mark", 0, (0,), flag),), (), 1))
                machine = (1, (1,), 5, rules)
                self.assertEqual(self.agrees(machine, structure), "accepts" if flag is not wait else "stops")

    def test_several_tapes(self):
        # Each of three tapes is marked in its turn, and then one of them is looked for.
        marks = [(("write", at, (), True), ("write", (at + 1) % 3, (), False)) for at in range(3)]
        for last in range(3):
            for asked in range(3):
                rules = ((0, (), marks[last], 2), (2, (("mark", asked, (), True),), (), 1))
                machine = (0, (0, 0, 0), 3, rules)
                self.assertEqual(self.agrees(machine, Structure(2, [])), "accepts" if asked == last else "stops")
                rules = ((0, (), marks[last], 2), (2, (), (("write", asked, (), False),), 3), (3, (("mark", last, (), True),), (), 1))
                self.assertEqual(self.agrees((0, (0, 0, 0), 4, rules), Structure(2, [])), "stops" if asked == last else "accepts")

    def test_made_machines(self):
        source = random.Random(111)
        words = []
        for _ in range(500):
            size = source.choice([2, 2, 2, 3])
            heads = source.choice([0, 1, 1, 2])
            tapes = tuple(source.choice([0, 1, 1, 2]) for _ in range(source.choice([0, 0, 1, 2, 2, 3])))
            machine = made_plain(source, heads, tapes, source.randrange(2, 5), source.choice([2, 2, 4]), source.choice([1, 2, 2, 3]))
            if sum(numbers(machine)) <= 6:
                words.append((self.agrees(machine, machining.made_structure(source, size)), bool(tapes)))
        for word in ["accepts", "stops", "goes on"]:
            self.assertGreater(words.count((word, False)), 15)
            self.assertGreater(words.count((word, True)), 10)

    def test_no_rules_and_rules_that_never_apply(self):
        for machine in [(0, (), 2, ()), (1, (), 3, ()), (2, (), 2, ()), (0, (0,), 2, ()), (0, (1, 0), 2, ())]:
            self.assertEqual(self.agrees(machine, Structure(2, [])), "stops")
        never = (2, (("rel", "f", (0, 0), True),), (("zero", 0), ("down", 0)), 1)
        machine = WALKS[:2] + (3, WALKS[3] + (never,))
        structure = Structure(2, [("f", 2, [(0, 0)]), ("p", 1, [(0,), (1,)])])
        self.assertEqual(told_symbols(sentence_of_room(machine)), [("f", 2), ("p", 1)])
        self.assertEqual(self.agrees(machine, structure), "accepts")

    def test_names_like_those_of_the_program(self):
        for name in [f"v{at}" for at in range(1, 12)]:
            rules = ((0, (("rel", name, (0,), True), ("last", 0, False)), (("up", 0),), 0),
                     (0, (("rel", name, (0,), True), ("last", 0, True)), (), 1))
            machine = (1, (), 2, rules)
            self.assertEqual(self.agrees(machine, Structure(2, [(name, 1, [(0,), (1,)])])), "accepts")
            self.assertEqual(self.agrees(machine, Structure(2, [(name, 1, [(0,)])])), "stops")

    def test_bad_arguments(self):
        for machine in [REACHES, (12, (6,), 4000, ((0, (), (), 1), (0, (), (), 1)))]:
            self.assertRaises(BadArgument, sentence_of_room, machine)

    def test_too_large(self):
        for heads, tapes, states, large in [(0, (), 32, False), (0, (), 33, True), (5, (), 2, False), (5, (), 3, True), (6, (), 2, True),
                                            (1, (), 32, False), (2, (), 16, False), (2, (), 17, True), (0, (0,), 31, False), (0, (0,), 32, True),
                                            (0, (4, 4), 2, False), (0, (4, 4, 4), 2, True), (0, (5,), 2, True), (0, (6,), 2, True),
                                            (4, (1, 2), 2, False), (3, (3,) * 6, 2, False), (3, (3,) * 6, 3, True), (12, (6,), 4000, True)]:
            machine = (heads, tapes, states, ())
            with self.subTest(machine):
                if large:
                    self.assertRaises(TooLarge, sentence_of_room, machine)
                else:
                    self.made(machine)

    def test_never_too_large_within_the_told_numbers(self):
        source = random.Random(112)
        for _ in range(100):
            heads = source.randrange(1, 5)
            most = 2 ** (6 - heads)
            tapes = tuple(source.choice([heads, heads, 0]) for _ in range(source.randrange(min(6, most - 2) + 1)))
            states = most - len(tapes)
            kinds = [("last", heads - 1), ("rel", "e", (0,) * 6)] + [("mark", at, (0,) * arity) for at, arity in enumerate(tapes)]
            rules = []
            open_states = [0] + list(range(2, states))
            for state in source.sample(open_states, min(3, len(open_states))):
                first, second = source.choice(kinds), source.choice(kinds)
                for flags in rows_of(2, 2):
                    actions = [("write", at, (0,) * arity, True) for at, arity in enumerate(tapes)] + [("up", 0), ("down", heads - 1)]
                    conditions = (first + (bool(flags[0]),), second + (bool(flags[1]),))
                    rules.append((state, conditions, tuple(source.choice(actions) for _ in range(2)), source.randrange(states)))
            self.made((heads, tapes, states, tuple(rules)))

    def test_beyond_a_bound(self):
        names = [f"r{at}" for at in range(8)]
        rules = []
        for number in range(2 ** 8):
            rules.append((0, tuple(("rel", name, (), bool(number >> at & 1)) for at, name in enumerate(names)), (), 1))
        self.assertRaises(TooLarge, sentence_of_room, (0, (), 2, tuple(rules)))
        self.made((0, (), 2, tuple(rules[:60])))


KNOWN = [
    "some(a b: pfp(r x y: or(e(x y), some(z: and(r(x z), e(z y)))))(a b))",
    "some(a: pfp(r x: not(r(x)))(a))",
    "some(a: pfp(r x: and(not(r(x)), e(x x)))(a))",
    "some(a: pfp(r x: or(p(x), and(r(x), not(some(y: and(r(y), y < x))))))(a))",
    "some(a: pfp(r x: or(not(some(y: r(y))), some(y: and(r(y), e(y x)))))(a))",
    "some(a b: pfp(r x y: e(x y))(a a))",
    "some(a b c: pfp(r x y: e(y x))(c a))",
    "some(x y: pfp(r y x: and(e(x y), not(q())))(x y))",
    "some(x: pfp(r x y: or(and(e(x y), not(r(y x))), x = y))(x x))",
    "some(a: pfp(r x: true)(a))",
    "some(a: pfp(r x: false)(a))",
    "some(a b: pfp(e x: some(y: or(p(y), e(y))))(b))",
    "some(a: pfp(r x: all(y: or(x = y, not(r(y)))))(a))",
    "some(a: pfp(a a: not(some(b: and(a(b), b < a))))(a))",
]


def told_way(sentence, structure):
    """The stages of the pfp up to the first one that equals the next one, or None if there is none."""
    size, relations = structure.size, relations_of(structure)
    stages = [set()]
    while True:
        following = told_stage(sentence[2], size, {}, relations, stages[-1])
        if following == stages[-1]:
            return stages
        if following in stages:
            return None
        stages.append(following)


class TestMachine(unittest.TestCase):
    def made(self, sentence):
        """The machine of a sentence, checked as far as no structure is needed."""
        before = copy.deepcopy(sentence)
        machine = room_of_sentence(sentence)
        self.assertEqual(sentence, before)
        self.assertIs(is_plain(machine), True)
        bound = bound_count(sentence, ["some", "all", "pfp"])
        self.assertLessEqual(machine[0], bound)
        self.assertEqual(machine[1], (len(own(sentence[2])),) * 2)
        self.assertLessEqual(machine[2], 20 * (told_parts(sentence) + bound) + 40)
        self.assertTrue(set(told_machine_symbols(machine)) <= set(told_symbols(sentence)))
        return machine

    def agrees(self, sentence, structure):
        machine = self.made(sentence)
        size = structure.size
        stages = told_way(sentence, structure)
        if stages is None:
            self.assertEqual(run(machine, structure, 20000)[0], "goes on")
            self.assertIs(told(sentence, size, {}, relations_of(structure)), False)
            return "goes on"
        rows = size ** len(own(sentence[2]))
        most = 100 * (rows * (told_cost(sentence[2][3], size) + 1) * (len(stages) + 1) + size ** len(sentence[1]))
        word, steps, _ = run(machine, structure, min(200000, most))
        self.assertEqual(word, "accepts" if told(sentence, size, {}, relations_of(structure)) else "stops")
        self.assertLessEqual(steps, most)
        return word

    def test_known(self):
        source = random.Random(113)
        words = []
        for text in KNOWN:
            for size in [1, 1, 2, 2, 2, 3]:
                words.append(self.agrees(parse_formula(text), made_structure(source, size)))
        for word in ["accepts", "stops", "goes on"]:
            self.assertGreater(words.count(word), 5)

    def test_against_holds(self):
        source = random.Random(114)
        for text in KNOWN:
            sentence = parse_formula(text)
            structure = made_structure(source, 2)
            word = self.agrees(sentence, structure)
            self.assertIs(holds(sentence, structure, {}), word == "accepts")

    def test_many_stages(self):
        sentence = parse_formula("some(a: pfp(r x: or(r(x), not(some(y: and(y < x, not(r(y)))))))(a))")
        for size in [1, 2, 3, 5, 9]:
            structure = Structure(size, [])
            self.assertEqual(len(told_way(sentence, structure)), size + 1)
            self.assertEqual(self.agrees(sentence, structure), "accepts")

    def test_made_sentences(self):
        source = random.Random(115)
        words = []
        for _ in range(500):
            variables = tuple(source.sample(["x", "y", "z", "e"], source.choice([1, 1, 2])))
            names = {**symbol_names(), "r": (len(variables), 0)}
            name = source.choice(["r", "r", "e"])
            names[name] = (len(variables), 0)
            body = Maker(source, PLAIN_KINDS).formula(source.randrange(1, 5), names)
            missing = tuple(variable for variable in told_free(body) if variable not in variables)
            body = (source.choice(["some", "all"]), missing, body) if missing else body
            outer = tuple(source.sample(["x", "y", "z", "w"], source.choice([1, 2])))
            sentence = ("some", outer, ("pfp", name, variables, body, tuple(source.choice(outer) for _ in variables)))
            size = source.choice([1, 2, 2, 3]) if len(variables) == 1 else source.choice([1, 2])
            if ("r", len(variables)) in told_symbols(sentence) or bound_count(sentence, ["some", "all", "pfp"]) > 8:
                continue
            words.append(self.agrees(sentence, made_structure(source, size)))
        for word in ["accepts", "stops", "goes on"]:
            self.assertGreater(words.count(word), 10)

    def test_bad_formulas(self):
        for value in [None, 0, "some", (), ("some", ("x",), ("pfp",)), ("some", (), TRUE), ("some", ("x", "x"), TRUE),
                      ("some", ("x",), ("pfp", "r", ("y",), ("rel", "r", ()), ("x",)))]:
            self.assertRaises(BadFormula, room_of_sentence, value)

    def test_bad_arguments(self):
        for text in ["true", "pfp(r x: p(x))(a)", "all(a: pfp(r x: p(x))(a))", "not(some(a: pfp(r x: p(x))(a)))", "some(a: not(pfp(r x: p(x))(a)))",
                     "some(a: lfp(r x: p(x))(a))", "some(a: some(b: pfp(r x: p(x))(a)))", "some(a: and(pfp(r x: p(x))(a)))", "some(a: p(a))",
                     "some(a: pfp(r x: e(x y))(a))", "some(a: pfp(r x: e(x a))(a))", "some(a: pfp(r x: p(x))(b))",
                     "some(a: pfp(r x y: e(x y))(a x))", "some(a: pfp(r x: lfp(s y: r(y))(x))(a))", "some(a: pfp(r x: tc(x y: e(x y))(x x))(a))",
                     "some(a: pfp(r x: pfp(s y: p(y))(x))(a))", "some(a: pfp(r x: guess(g 0: g()))(a))", "guess(g 1: some(a: pfp(r x: p(x))(a)))"]:
            self.assertRaises(BadArgument, room_of_sentence, parse_formula(text))

    def test_too_large(self):
        def sentence(outer, inner, bound, parts):
            body = ("and", (("some", tuple("abcdef"[:bound]), TRUE),) if bound else ())
            body = ("or", (body, filled(parts - 3 - told_parts(body))))
            found = ("some", tuple("ghijkl"[:outer]), ("pfp", "r", tuple("mnopqr"[:inner]), body, ("g",) * inner))
            self.assertEqual(told_parts(found), parts)
            return found

        for outer, inner, bound, parts, large in [(6, 6, 0, 20, False), (6, 6, 1, 20, True), (1, 6, 5, 20, False), (1, 6, 6, 20, True),
                                                  (6, 1, 5, 20, False), (6, 1, 6, 20, True), (1, 1, 0, 196, False), (1, 1, 0, 197, True),
                                                  (6, 6, 0, 186, False), (6, 6, 0, 187, True), (1, 1, 0, 1999, True)]:
            with self.subTest(outer=outer, inner=inner, bound=bound, parts=parts):
                if large:
                    self.assertRaises(TooLarge, room_of_sentence, sentence(outer, inner, bound, parts))
                else:
                    machine = self.made(sentence(outer, inner, bound, parts))
                    self.assertEqual(run(machine, Structure(1, []), 200000)[0], "accepts")


if __name__ == "__main__":
    unittest.main()
