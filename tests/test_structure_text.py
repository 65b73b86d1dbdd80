import random
import unittest

from sayso.errors import BadText
from sayso.structures import Structure
from sayso.structures import format_structure
from sayso.structures import parse_structure

EXAMPLE = "3; e/2 0,1 1,2; p/1 2; q/0 ()"
TEXTS = [EXAMPLE, "1", "16", "2; q/0", "2; q/0 ()", "12; e/2 0,11 9,10 10,2 11,11; p/1 0 9 10",
         "2; r/6 0,0,0,0,0,0 1,1,1,1,1,1", "1; a/0; b/1; c/2; d/3; e/4; f/6 0,0,0,0,0,0"]
SIGNS = [" ", ",", ";", "/", "(", ")", "0", "1", "9", "a", "A", "-", "+", "_", "\n", "\u0663", "\u00b2", "\uff11"]


def made(source):
    size = source.randrange(1, 17)
    relations = []
    for name in source.sample(["a", "e", "p1", "q", "abcdefghijkl"], source.randrange(5)):
        arity = source.choice([k for k in range(4) if size ** k <= 4096])
        rows = [tuple(source.randrange(size) for _ in range(arity)) for _ in range(source.randrange(5))]
        relations.append((name, arity, rows))
    return Structure(size, relations)


class TestStructureText(unittest.TestCase):
    def bad(self, text):
        with self.assertRaises(BadText):
            parse_structure(text)

    def test_example(self):
        structure = Structure(3, [("e", 2, [(1, 2), (0, 1)]), ("p", 1, [(2,)]), ("q", 0, [()])])
        self.assertEqual(format_structure(structure), EXAMPLE)
        self.assertEqual(parse_structure(EXAMPLE), structure)

    def test_texts_both_ways(self):
        for text in TEXTS:
            self.assertEqual(format_structure(parse_structure(text)), text)

    def test_structures_both_ways(self):
        source = random.Random(4)
        for _ in range(300):
            structure = made(source)
            self.assertEqual(parse_structure(format_structure(structure)), structure)

    def test_leading_zeros(self):
        for text in ["03", "00", "0", "3; e/02 0,1", "3; e/2 00,1", "3; e/2 0,01", "16; p/1 001", "3; q/00 ()"]:
            self.bad(text)

    def test_blanks(self):
        for text in [" 3", "3 ", "3;e/2 0,1", "3;  e/2 0,1", "3 ; e/2 0,1", "3; e/2  0,1", "3; e/2 0,1 ", "3; e /2 0,1",
                     "3; e/ 2 0,1", "3; e/2 0, 1", "3; e/2 0 ,1", "3; q/0 ( )", "3; e/2\t0,1", "3;\ne/2", "3\n"]:
            self.bad(text)

    def test_order_and_duplicates(self):
        for text in ["3; e/2 1,2 0,1", "3; e/2 0,1 0,1", "3; q/0 () ()", "12; p/1 10 9", "12; p/1 2 10 9"]:
            self.bad(text)

    def test_bounds(self):
        for text in ["0", "17", "100", "-1", "3; p/1 3", "3; p/1 -1", "3; r/7", "16; r/4", "2; p/1 99999999999",
                     "1" * 5000, "3; r/" + "1" * 5000, "3; p/1 " + "1" * 5000, "9" * 100000]:
            self.bad(text)

    def test_what_is_no_structure(self):
        for text in ["3; e/2 0,1; e/2 0,1", "3; and/1", "3; E/1", "3; 1e/1", "3; e/2 0", "3; e/2 0,1,2", "3; e/2 ()",
                     "3; q/0 0", "2; a/0; b/0; c/0; d/0; e/0; f/0; g/0", "3; abcdefghijklm/1"]:
            self.bad(text)

    def test_what_is_nearly_a_text(self):
        for text in ["", " ", ";", "; ", "3;", "3; ", "3; e", "3; e/", "3; /2", "3; e/2; ", "3; e//2", "3; e/2/2",
                     "3; e/2 0,,1", "3; e/2 ,", "3; e/2 0,1,", "3; e/2 (0,1)", "3; q/0 (", "3; q/0 )", "3; q/0 (),",
                     "e/2 0,1", "3, e/2", "three", "3.0", "+3", "1_0", "0x3", "3; e/2 0,+1", "3; e/2 0,1_0"]:
            self.bad(text)

    def test_other_figures(self):
        for text in ["\u0663", "\u00b3", "\uff13", "3; p/\u0661 2", "3; p/1 \u0662", "3; p/1 \u00b2", "3; p/\u00b9",
                     "3; p\u0661/1", "3; p\u00b2/1", "\U0001d7d1"]:
            self.bad(text)

    def test_no_text(self):
        for value in [None, 3, True, b"3", ["3"], ("3",), Structure(3, []), {}]:
            self.bad(value)

    def test_changed_texts(self):
        for text in TEXTS:
            for place in range(len(text) + 1):
                changed = [text[:place] + sign + text[place:] for sign in SIGNS]
                changed += [text[:place] + sign + text[place + 1:] for sign in SIGNS + [""]]
                for other in changed:
                    try:
                        found = parse_structure(other)
                    except BadText:
                        continue
                    self.assertEqual(format_structure(found), other)


if __name__ == "__main__":
    unittest.main()
