import unittest

from samples import KINDS
from samples import X
from samples import many_made
from samples import nested
from samples import told_agree
from samples import with_parts
from sayso.errors import BadFormula
from sayso.errors import BadText
from sayso.formulas import check_formula
from sayso.formulas import format_formula
from sayso.formulas import parse_formula

SIGNS = [" ", ",", ":", "(", ")", "=", "<", "x", "r", "0", "1", "4", "A", "_", "\n", "\t", ";", "\u00e9", "\u0662",
         ", ", "()", "not(", ": "]
WORDS = ["and", "or", "not", "some", "all", "lfp", "pfp", "tc", "guess", "true", "false"]


class TestFormulaText(unittest.TestCase):
    def bad(self, text):
        with self.assertRaises(BadText):
            parse_formula(text)

    def test_kinds_both_ways(self):
        for formula, text in KINDS:
            with self.subTest(text):
                self.assertEqual(format_formula(formula), text)
                self.assertEqual(parse_formula(text), formula)

    def test_many_both_ways(self):
        for formula in many_made(2000, seed=3):
            if told_agree(formula):
                self.assertEqual(parse_formula(format_formula(formula)), formula)

    def test_at_the_bounds_both_ways(self):
        for formula in [with_parts(2000), nested(40), ("and", (X,) * 40), ("some", tuple("abcdfg"), X),
                        ("tc", tuple("abcdfghi"), X, ("x",) * 8), ("rel", "a" * 12, ("b" * 12,) * 6)]:
            self.assertEqual(parse_formula(format_formula(formula)), formula)

    def test_blanks(self):
        for text in ["", " ", " true", "true ", "e( x)", "e(x )", "e(x  y)", "e (x)", "e( )", "x =y", "x= y", "x=y", "x  = y",
                     "x =  y", "x<y", "x <y", "x< y", "not( true)", "not(true )", "not (true)", "and(true,false)",
                     "and(true,  false)", "and(true , false)", "some(x:true)", "some(x:  true)", "some(x : true)",
                     "some( x: true)", "some(x  y: true)", "some (x: true)", "lfp(r x: true) (a)", "lfp(r x: true)( a)",
                     "lfp(r  x: true)(a)", "guess(r  2: true)", "guess(r 2:true)", "guess(r2: true)", "tc(x y: true)(a  b)",
                     "true\n", "\ttrue", "x\u00a0= y"]:
            with self.subTest(text):
                self.bad(text)

    def test_commas_and_brackets(self):
        for text in ["e", "e(", "e)", "e(x", "e(x))", "e((x))", "e(x,y)", "e(x, y)", "e()()", "(true)", "()", "not", "not()",
                     "not(true", "not(true))", "not(true, true)", "and", "or", "and()", "or()", "and(true,)",
                     "and(true, )", "and(, true)", "and(true, , true)", "and(true", "and(true, true", "and(true))",
                     "true()", "false()", "some(x true)", "some(x)", "some(: true)", "some(true)", "some(x,y: true)",
                     "some(x: true)(x)", "some(x: true", "some(x: )", "some(x:: true)", "lfp(r x: true)", "lfp(r x: true)()",
                     "lfp(r x: true)(a", "lfp(r x: true(a)", "lfp(r: true)()", "lfp(r: true)(a)", "pfp(x: true)(a)",
                     "lfp(r x: true)(a)(a)", "tc(x y: true)", "tc(x y: true)()", "tc(: true)()", "guess(r: true)",
                     "guess(2: true)", "guess(r 2: true)(a)", "guess(r 2 true)", "guess(r x: true)", "guess(r 1 x: true)",
                     "x = ", " = y", "=", "x", "x = y = z", "x = y z", "x > y", "x == y", "x <= y", "x = e(y)", "e(e(x))",
                     "x = y, x = y", "true, true", "true false", ",", ":", ")", "("]:
            with self.subTest(text):
                self.bad(text)

    def test_words_as_names(self):
        for word in WORDS:
            for text in ["{}(x)", "e({})", "x = {}", "{} = x", "{} < x", "some({}: true)", "lfp({} x: true)(a)",
                         "lfp(r {}: true)(a)", "lfp(r x: true)({})", "guess({} 1: true)", "tc(x {}: true)(a b)", "{}", "{}()",
                         "tc(x y: true)(a {})"]:
                told = text.format(word)
                if told not in ("true", "false"):
                    with self.subTest(told):
                        self.bad(told)
            self.assertEqual(parse_formula(f"{word}1({word}s)"), ("rel", word + "1", (word + "s",)))

    def test_bad_names_and_numbers(self):
        for text in ["E(x)", "e(X)", "1(x)", "e(1)", "1e(x)", "x = 1", "e_(x)", "e(x_y)", "abcdefghijklm(x)", "e(abcdefghijklm)",
                     "\u00e9(x)", "e(\u00e9)", "x = y\u0662", "guess(r 4: true)", "guess(r -1: true)", "guess(r 01: true)",
                     "guess(r 00: true)", "guess(r \u0662: true)", "guess(r \u00b2: true)", "guess(r 10: true)",
                     "guess(r : true)", "guess(r true: true)", "guess(r " + "1" * 5000 + ": true)", "guess(1 1: true)"]:
            with self.subTest(text[:40]):
                self.bad(text)

    def test_what_is_no_formula(self):
        for text in ["e(a b c d f g h)", "some(x x: true)", "some(a b c d f g h: true)", "lfp(r x x: true)(a b)",
                     "lfp(r x: true)(a b)", "lfp(r x y: true)(a)", "lfp(r x: not(r(x)))(a)", "lfp(r x: r())(a)",
                     "lfp(r x: pfp(s y: r(y))(x))(a)", "and(e(x), e(x y))", "guess(r 1: r())", "tc(x: true)(a)",
                     "tc(x y z: true)(a b c)", "tc(x x: true)(a b)", "tc(x y: true)(a)",
                     "tc(a b c d f g h i j k: true)(a b c d f g h i j k)", "and(" + ", ".join(["true"] * 41) + ")"]:
            with self.subTest(text):
                self.bad(text)

    def test_far_too_deep_and_far_too_large(self):
        for text in ["not(" * 40 + "true" + ")" * 40, "not(" * 100000 + "true" + ")" * 100000, "not(" * 100000,
                     "and(" * 100000, "some(x: " * 100000, "lfp(r x: " * 100000, "guess(r 1: " * 50000,
                     "and(" + ", ".join(["true"] * 100000) + ")", "e(" + " ".join(["x"] * 100000) + ")", "x" * 1000000,
                     "some(" + " ".join(["x"] * 100000) + ": true)", "(" * 100000, ")" * 100000, " " * 100000,
                     "or(" + ", ".join(["and(" + ", ".join(["x = x"] * 40) + ")"] * 40) + ", " + ", ".join(["true"] * 400) + ")"]:
            with self.subTest(text[:30]):
                self.bad(text)

    def test_no_text(self):
        for value in [None, True, 0, b"true", ["true"], ("and", ()), ("true",), {}, object()]:
            with self.subTest(repr(value)):
                self.bad(value)

    def test_changed_texts(self):
        for _, text in KINDS:
            for place in range(len(text) + 1):
                changed = [text[:place] + sign + text[place:] for sign in SIGNS]
                changed += [text[:place] + sign + text[place + 1:] for sign in SIGNS + [""]]
                for other in changed:
                    try:
                        found = parse_formula(other)
                    except BadText:
                        continue
                    self.assertEqual(format_formula(found), other)

    def test_one_text_for_each(self):
        texts = {}
        for formula in many_made(2000, seed=5):
            try:
                check_formula(formula)
            except BadFormula:
                continue
            text = format_formula(formula)
            self.assertEqual(texts.setdefault(text, formula), formula)


if __name__ == "__main__":
    unittest.main()
