"""The desk, which keeps two structures and a sentence, and answers lines of words."""

from sayso.answers import ACCEPTERS
from sayso.answers import answer_by
from sayso.answers import answer_holds
from sayso.answers import answer_numbers
from sayso.answers import answer_part
from sayso.errors import BadLine
from sayso.errors import BadText
from sayso.formulas import free
from sayso.formulas import parse_formula
from sayso.structures import parse_structure

PEBBLES = {"1": 1, "2": 2, "3": 3}


def _read_structure(text):
    """Return the structure of a textual form, or raise BadLine."""
    try:
        return parse_structure(text)
    except BadText:
        raise BadLine("a structure is missing in the line") from None


def _read_sentence(text):
    """Return the sentence of a textual form, or raise BadLine."""
    try:
        sentence = parse_formula(text)
    except BadText:
        raise BadLine("a sentence is missing in the line") from None
    if free(sentence):
        raise BadLine("the formula in the line is no sentence")
    return sentence


def _given(value):
    """Return a value that has been given, or raise BadLine."""
    if value is None:
        raise BadLine("the line needs something that was not given")
    return value


class Desk:
    """Two structures and a sentence, which are given, and asked about, line by line."""

    def __init__(self):
        self.first = None
        self.second = None
        self.sentence = None

    def do(self, line):
        """Do what a line says, and return the answer, or raise BadLine."""
        if not isinstance(line, str):
            raise BadLine("a line is a text")
        word, blank, rest = line.partition(" ")
        if blank:
            return self._told(word, rest)
        if word == "holds":
            return answer_holds(_given(self.sentence), _given(self.first))
        if word == "numbers":
            return answer_numbers(_given(self.sentence))
        raise BadLine("there is no such line")

    def _told(self, word, rest):
        """Do what a line of a word and more words says."""
        if word == "first":
            self.first = _read_structure(rest)
            return "ok"
        if word == "second":
            self.second = _read_structure(rest)
            return "ok"
        if word == "say":
            self.sentence = _read_sentence(rest)
            return "ok"
        if word == "by" and rest in ACCEPTERS:
            return answer_by(rest, _given(self.sentence), _given(self.first))
        if word == "part" and rest in PEBBLES:
            return answer_part(_given(self.first), _given(self.second), PEBBLES[rest])
        raise BadLine("there is no such line")
