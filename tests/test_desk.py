"""The desk: each line, each answer, and the order of the answers."""

import random
import unittest

from fitting import made_structure
from playing import many_pairs
from playing import told_lengths
from samples import FALSE
from samples import told_depth
from samples import told_free
from samples import told_rank
from samples import told_width
from sayso.desk import Desk
from sayso.errors import BadLine
from sayso.formulas import format_formula
from sayso.formulas import parse_formula
from sayso.structures import Structure
from sayso.structures import format_structure
from second import relations_of
from second import told
from second import told_cost
from sentences import filled
from sentences import many_sentences
from sentences import told_parts

PATH = "3; e/2 0,1 1,2; p/1 0; q/0"
CYCLE = "3; e/2 0,1 1,2 2,0; p/1 0; q/0"
WAYS = ["heads", "clock", "guess", "room"]
# One sentence for each way, and what else it is good for.
FOR_WAY = {
    "heads": "all(y: some(x: and(p(x), tc(a b: e(a b))(x y))))",
    "clock": "all(x: lfp(r y: or(p(y), some(z: and(r(z), e(z y)))))(x))",
    "guess": "guess(g 1: and(some(x: g(x)), some(x: not(g(x)))))",
    "room": "some(a: pfp(r x: or(p(x), r(x)))(a))",
}


def desk(first=None, second=None, sentence=None):
    found = Desk()
    for word, text in [("first", first), ("second", second), ("say", sentence)]:
        if text is not None:
            assert found.do(f"{word} {text}") == "ok"
    return found


class TestLines(unittest.TestCase):
    def bad(self, one, line):
        with self.subTest(line):
            self.assertRaises(BadLine, one.do, line)

    def test_texts(self):
        one = Desk()
        for line in ["first 1", "first " + PATH, "second " + CYCLE, "second 16", "say true", "say not(false)", "say " + FOR_WAY["heads"]]:
            self.assertEqual(one.do(line), "ok")
        for line in ["first", "first ", "first 0", "first 17", "first  1", "first 1 ", "first 01", "first 3; e/2 0,3", "first 3;e/2", "second",
                     "second 3; e/2 1,2 0,1", "second x", "say", "say ", "say  true", "say true ", "say x = x", "say e(x y)", "say some(x: e(x y))",
                     "say and()", "say some(x:true)", "say tc(x y: e(x y))(x y)", "say first 1", "first say true", "say Q()", "say lfp(r x: r(x))(y)"]:
            self.bad(one, line)

    def test_no_lines(self):
        one = desk(PATH, CYCLE, FOR_WAY["heads"])
        for line in ["", " ", "x", "hold", "Holds", "HOLDS", "holds ", " holds", "holds  ", "holds now", "holds holds", "numbers ", " numbers",
                     "numbers 1", "number", "by", "by ", "by  heads", "by heads ", " by heads", "by heads now", "by Heads", "by head", "by heads clock",
                     "part", "part ", "part 0", "part 4", "part 01", "part -1", "part x", "part 1 ", "part  1", " part 1", "part 1 2", "part 1.0",
                     "part +1", "part one", "part 10", "holds\n", "by heads\n", "\nholds", "by\theads", "part\t1", "first\t1", "third 1", "ok", "yes",
                     "byheads", "part1", "by part 1", "say holds", "by 1", "part heads"]:
            self.bad(one, line)
        for value in [None, 0, 1, True, [], ["holds"], ("holds",), {}, b"holds", 1.5]:
            self.bad(one, value)

    def test_what_was_not_given(self):
        everything = {"first": PATH, "second": CYCLE, "sentence": FOR_WAY["heads"]}
        for missing in [["first"], ["second"], ["sentence"], ["first", "second"], ["first", "sentence"], ["second", "sentence"], list(everything)]:
            one = desk(**{name: text for name, text in everything.items() if name not in missing})
            needs = {"holds": ["first", "sentence"], "numbers": ["sentence"], "part 1": ["first", "second"]}
            needs.update({f"by {way}": ["first", "sentence"] for way in WAYS})
            for line, needed in needs.items():
                if any(name in missing for name in needed):
                    self.bad(one, line)
                else:
                    self.assertNotEqual(one.do(line), "ok")

    def test_nothing_changes(self):
        one = desk(PATH, CYCLE, FOR_WAY["heads"])
        lines = ["holds", "numbers", "by heads", "by clock", "part 1", "part 2"]
        before = [one.do(line) for line in lines]
        for line in ["first 0", "second 17", "say x = y", "say nothing", "first", "second", "say", "part 7", "by now", "", None]:
            self.assertRaises(BadLine, one.do, line)
            self.assertEqual([one.do(line) for line in lines], before)
        empty = Desk()
        for line in ["first 0", "say x = x", "holds", "second"]:
            self.assertRaises(BadLine, empty.do, line)
        self.assertEqual(empty.do("say true"), "ok")
        self.assertRaises(BadLine, empty.do, "holds")

    def test_new_ones_take_the_place_of_the_old(self):
        one = desk(PATH, PATH, "some(x: e(x x))")
        self.assertEqual([one.do("holds"), one.do("by heads"), one.do("part 2")], ["no", "no", "same"])
        # A second structure changes none of holds, numbers and by.
        before = [one.do(line) for line in ["holds", "numbers"] + [f"by {way}" for way in WAYS]]
        one.do("second 1; e/2 0,0; p/1; q/0 ()")
        self.assertEqual([one.do(line) for line in ["holds", "numbers"] + [f"by {way}" for way in WAYS]], before)
        self.assertEqual(one.do("part 2"), "parted 0")
        one.do("first 2; e/2 1,1; p/1; q/0 ()")
        self.assertEqual([one.do("holds"), one.do("by heads"), one.do("by clock"), one.do("part 1")], ["yes", "yes", "yes", "parted 1"])
        one.do("say not(q())")
        self.assertEqual([one.do("holds"), one.do("by heads"), one.do("numbers")], ["no", "no", "0 0 2 2"])
        # Two desks do not know of each other.
        self.assertRaises(BadLine, Desk().do, "numbers")


class TestAnswers(unittest.TestCase):
    def test_numbers(self):
        source = random.Random(121)
        one = Desk()
        for sentence in many_sentences(source, 60, ["lfp", "tc"]):
            one.do("say " + format_formula(sentence))
            expected = [told_rank(sentence), told_width(sentence), told_parts(sentence), told_depth(sentence)]
            self.assertEqual(one.do("numbers"), " ".join(map(str, expected)))
        one.do("say guess(g 2: some(x y: and(g(x y), not(x = y))))")
        self.assertEqual(one.do("numbers"), "2 2 6 5")

    def test_holds(self):
        source = random.Random(122)
        answers = []
        for sentence in many_sentences(source, 80, ["lfp", "tc"], 5):
            structure = made_structure(source, 2)
            one = desk(format_structure(structure), None, format_formula(sentence))
            answers.append(one.do("holds"))
            if answers[-1] != "too large":
                self.assertEqual(answers[-1], "yes" if told(sentence, 2, {}, relations_of(structure)) else "no")
        self.assertGreater(min(answers.count("yes"), answers.count("no")), 20)
        self.assertEqual(desk("2", None, "q()").do("holds"), "not fitting")
        large = "pfp(r a: r(a))(x)"
        self.assertEqual(desk("13", None, f"some(x: {large})").do("holds"), "too large")
        self.assertEqual(desk("13", None, f"some(x: or({large}, q()))").do("holds"), "not fitting")
        self.assertEqual(desk("12", None, f"some(x: {large})").do("holds"), "no")

    def test_part(self):
        source = random.Random(123)
        answers = []
        for first, second in many_pairs(source, 60):
            one = desk(format_structure(first), format_structure(second))
            for k in [1, 2]:
                rounds = told_lengths(first, second, k)[(None,) * k]
                answers.append(one.do(f"part {k}"))
                self.assertEqual(answers[-1], "same" if rounds is None else f"parted {rounds}")
        self.assertLessEqual({"same", "parted 0", "parted 1", "parted 2"}, set(answers))
        self.assertEqual(desk("2", "3").do("part 2"), "same")
        self.assertEqual(desk("2", "3").do("part 3"), "parted 3")
        self.assertEqual(desk("7", "9").do("part 2"), "too large")
        self.assertEqual(desk("6", "10").do("part 2"), "same")
        self.assertEqual(desk("16", "16").do("part 1"), "same")
        self.assertEqual(desk("3", "5").do("part 3"), "too large")
        self.assertEqual(desk("16; p/1", "16").do("part 3"), "not fitting")
        self.assertEqual(desk("1; p/1", "1; p/2").do("part 1"), "not fitting")
        self.assertEqual(desk("1; p/1; q/0", "1; q/0; p/1").do("part 1"), "same")

    def test_each_way(self):
        for way, sentence in FOR_WAY.items():
            for structure in [PATH, CYCLE, "3; e/2; p/1; q/0", "1; e/2; p/1; q/0", "2; e/2 1,0; p/1 1; q/0"]:
                one = desk(structure, None, sentence)
                self.assertEqual(one.do(f"by {way}"), one.do("holds"))
        self.assertEqual(desk(PATH, None, FOR_WAY["room"]).do("by room"), "yes")
        self.assertEqual(desk("3; p/1", None, FOR_WAY["room"]).do("by room"), "no")
        self.assertEqual(desk("1", None, FOR_WAY["guess"]).do("by guess"), "no")
        self.assertEqual(desk("2", None, FOR_WAY["guess"]).do("by guess"), "yes")

    def test_runs_that_never_end(self):
        one = desk("2; p/1 0", None, "some(a: pfp(r x: not(r(x)))(a))")
        self.assertEqual([one.do("by room"), one.do("holds")], ["no", "no"])

    def test_not_so(self):
        kinds = dict(FOR_WAY, first_order="some(x: p(x))")
        good = {"heads": ["heads", "first_order"], "clock": ["clock", "first_order"], "guess": ["guess"], "room": ["room"]}
        for way in WAYS:
            for kind, sentence in kinds.items():
                for structure in [PATH, "3"]:
                    answer = desk(structure, None, sentence).do(f"by {way}")
                    if kind not in good[way]:
                        self.assertEqual(answer, "not so")
                    elif structure == "3" and kind != "guess":
                        self.assertEqual(answer, "not fitting")
                    else:
                        self.assertEqual(answer, desk(structure, None, sentence).do("holds"))
        self.assertEqual(desk(PATH, None, "not(some(x y: tc(a b: e(a b))(x y)))").do("by heads"), "not so")
        self.assertEqual(desk("1", None, "guess(g 1: guess(h 1: q()))").do("by guess"), "not so")

    def test_order_of_the_answers(self):
        bound = "all(a b c d e f: all(g h i j k l: all(m: q())))"
        fixed = "some(a b: pfp(r c d e f: all(g h i j k l: all(m: q())))(a a b b))"
        # Not so, not fitting and too large at once; then two of them.
        for way, sentence, so in [("heads", f"and({bound}, guess(g 0: g()))", False), ("heads", bound, True),
                                  ("clock", f"and({bound}, guess(g 0: g()))", False), ("clock", bound, True),
                                  ("guess", f"guess(g 1: and({bound}, guess(g 0: g())))", False), ("guess", f"guess(g 1: {bound})", True),
                                  ("room", fixed.replace("q()", "lfp(s x: q())(m)"), False), ("room", fixed, True)]:
            with self.subTest(way=way, sentence=sentence):
                self.assertEqual(desk("1", None, sentence).do(f"by {way}"), "not fitting" if so else "not so")
                self.assertEqual(desk("1; q/0 ()", None, sentence).do(f"by {way}"), "too large" if so else "not so")
        # Too large for the structure, not by itself.
        for way, sentence in [("heads", "all(a b c d e: q())"), ("clock", "all(a b c d e: q())"), ("guess", "guess(g 1: q())"),
                              ("room", "some(a: pfp(r x: q())(a))")]:
            self.assertEqual(desk("16", None, sentence).do(f"by {way}"), "not fitting")
            self.assertEqual(desk("16; q/0 ()", None, sentence).do(f"by {way}"), "too large")


def within_or(parts):
    """A sentence with so many parts that does not hold, and whose cost is the number of its parts."""
    return format_formula(filled(parts))


def costing(wanted):
    """A sentence with few parts that costs just so much for two elements, and does not hold."""
    if wanted <= 12:
        return ("or", (FALSE,) * (wanted - 1))
    # A some of one variable costs 1 + 2 c, and "or" round it 1 more.
    if wanted % 2:
        return ("some", (f"x{wanted}",), costing((wanted - 1) // 2))
    return ("or", (costing(wanted - 1),))


class TestBounds(unittest.TestCase):
    def both(self, way, size, within, beyond, answer="no"):
        one = desk(str(size), None, within)
        self.assertEqual(one.do(f"by {way}"), answer)
        holds = one.do("holds")
        self.assertIn(holds, [answer, "too large"])
        one.do("say " + beyond)
        self.assertEqual(one.do(f"by {way}"), "too large")

    def test_heads(self):
        # (10 * (p + b) + 2) * n ** b: 1992 * 10 and 2002 * 10, and so on.
        for size, bound, most in [(10, 1, 198), (5, 2, 77), (2, 4, 120), (16, 2, 5), (3, 3, 70), (4, 3, 28), (8, 2, 29)]:
            variables = " ".join("abcdef"[:bound])
            self.assertLessEqual((10 * (most + bound) + 2) * size ** bound, 20000)
            self.assertGreater((10 * (most + 1 + bound) + 2) * size ** bound, 20000)
            self.both("heads", size, f"some({variables}: {within_or(most - 1)})", f"some({variables}: {within_or(most)})")
        # 10 * (p + b) + 2 is at most 4000, whatever the structure.
        self.both("heads", 1, within_or(399), within_or(400))

    def test_clock(self):
        # 40 times the cost is at most 200000: a cost of 5000.
        self.both("clock", 7, "some(a b c: some(d: false))", "some(a b c: some(d: or(false)))")
        self.both("clock", 16, "some(a b c: false)", "some(a b c: or(false))")
        self.both("clock", 2, format_formula(costing(5000)), format_formula(costing(5001)))

    def test_costing(self):
        for wanted in [20, 21, 100, 4999, 5000, 5001]:
            self.assertEqual(told_cost(costing(wanted), 2), wanted)

    def test_guess(self):
        self.both("guess", 9, "guess(g 1: false)", "guess(g 2: false)")
        one = desk("10", None, "guess(g 1: false)")
        self.assertEqual(one.do("by guess"), "too large")
        one.do("say guess(g 0: false)")
        self.assertEqual(one.do("by guess"), "no")
        for size, arity, answer in [(3, 2, "no"), (4, 2, "too large"), (2, 3, "no"), (3, 3, "too large"), (16, 0, "no"), (1, 3, "no")]:
            self.assertEqual(desk(str(size), None, f"guess(g {arity}: false)").do("by guess"), answer)
        # The cost of f alone counts, and not that of the guess.
        within, beyond = format_formula(costing(5000)), format_formula(costing(5001))
        self.both("guess", 2, f"guess(g 0: {within})", f"guess(g 0: {beyond})")

    def test_room(self):
        # 100 * (N c s + M) with s = 2 ** N + 2: for two elements, N = 2, s = 6, and M = 2: 12 * c is at most 1998, so c at most 166.
        for size, arity, outer, most in [(2, 1, 1, 166), (1, 1, 1, 499), (3, 1, 1, 66), (2, 1, 6, 161), (2, 2, 1, 27), (5, 1, 2, 11)]:
            rows = size ** arity
            steps = lambda cost: 100 * (rows * cost * (2 ** rows + 2) + size ** outer)
            self.assertTrue(steps(most) <= 200000 < steps(most + 1), (size, arity))
            if most > 190:
                continue
            variables, own = " ".join("abcdef"[:outer]), " ".join("uvwxyz"[:arity])
            args = " ".join("a" * arity)
            sentence = lambda parts: f"some({variables}: pfp(r {own}: {within_or(parts)})({args}))"
            self.both("room", size, sentence(most - 1), sentence(most))
        # The number of stages is not looked at: 2 ** N for 16 elements is far beyond.
        self.assertEqual(desk("16", None, "some(a: pfp(r x: false)(a))").do("by room"), "too large")
        self.assertEqual(desk("16", None, "some(a: pfp(r u v w x y z: false)(a a a a a a))").do("by room"), "too large")
        self.assertEqual(desk("7", None, "some(a: pfp(r x: false)(a))").do("by room"), "no")
        self.assertEqual(desk("8", None, "some(a: pfp(r x: false)(a))").do("by room"), "too large")

    def test_cheap_sentences_are_within(self):
        for text in ["true", "false", "q()", "not(q())", "and(true)", "or(false)"]:
            for structure in ["1; q/0", "16; q/0 ()"]:
                one = desk(structure, None, text)
                self.assertEqual({one.do("by heads"), one.do("by clock")}, {one.do("holds")})


class TestAgreement(unittest.TestCase):
    def test_by_and_holds(self):
        source = random.Random(124)
        answers = {way: [] for way in WAYS}
        for way, more in [("heads", ["tc"]), ("clock", ["lfp"]), ("guess", ["lfp"])]:
            arities = {"e": 2, "p": 1, "q": 0, "x": 1, "g": 1}
            for body in many_sentences(source, 150, more, 5, arities if way == "guess" else None):
                sentence = ("guess", "g", 1, body) if way == "guess" else body
                structure = made_structure(source, source.choice([1, 2, 3]))
                one = desk(format_structure(structure), None, format_formula(sentence))
                answer, held = one.do(f"by {way}"), one.do("holds")
                answers[way].append(answer)
                if answer in ("yes", "no") and held in ("yes", "no"):
                    self.assertEqual(answer, held)
        for way in ["heads", "clock", "guess"]:
            self.assertGreater(min(answers[way].count("yes"), answers[way].count("no")), 20)

    def test_texts_are_read_back(self):
        source = random.Random(125)
        for sentence in many_sentences(source, 30, ["lfp", "tc"]):
            self.assertEqual(told_free(sentence), [])
            self.assertEqual(parse_formula(format_formula(sentence)), sentence)
            self.assertEqual(desk(None, None, format_formula(sentence)).do("numbers").split(" ")[2], str(told_parts(sentence)))
        self.assertEqual(format_structure(Structure(3, [("e", 2, [(1, 2), (0, 1)]), ("p", 1, [(0,)]), ("q", 0, [])])), PATH)


if __name__ == "__main__":
    unittest.main()
