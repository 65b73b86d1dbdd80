"""The textual form of formulas: writing it, and reading what looks like it."""

from sayso.errors import BadText
from sayso.shapes import arguments
from sayso.shapes import bound_name
from sayso.shapes import inner
from sayso.shapes import own
from sayso.structures import FIGURES
from sayso.structures import LETTERS

SIGNS = {"eq": "=", "less": "<"}
WORDS_OF_EMPTY = {"and": "true", "or": "false"}
EMPTY_OF_WORDS = {"true": ("and", ()), "false": ("or", ())}
GUESS_ARITIES = {"0": 0, "1": 1, "2": 2, "3": 3}


def _head(formula):
    """Return what stands before the colon of a formula that binds something."""
    words = list(own(formula))
    if bound_name(formula) is not None:
        words = [formula[1]] + words
    if formula[0] == "guess":
        words.append(str(formula[2]))
    return " ".join(words)


def formula_text(formula):
    """Return the textual form of a formula."""
    word = formula[0]
    if word in SIGNS:
        return f"{formula[1]} {SIGNS[word]} {formula[2]}"
    behind = " ".join(arguments(formula))
    if word == "rel":
        return f"{formula[1]}({behind})"
    if not inner(formula):
        return WORDS_OF_EMPTY[word]
    inside = ", ".join([formula_text(part) for part in inner(formula)])
    if word in ("and", "or", "not"):
        return f"{word}({inside})"
    if behind:
        return f"{word}({_head(formula)}: {inside})({behind})"
    return f"{word}({_head(formula)}: {inside})"


class Reader:
    """A text that is read from left to right, with a bound for the formulas within one another."""

    def __init__(self, text, most_deep):
        self.text = text
        self.place = 0
        self.levels_left = most_deep

    def takes(self, sign):
        """Go beyond a sign if it comes next, and tell whether it did."""
        end = self.place + len(sign)
        if self.text[self.place:end] != sign:
            return False
        self.place = end
        return True

    def needs(self, sign):
        """Go beyond a sign that has to come next."""
        if not self.takes(sign):
            raise BadText("a sign is missing in the text of a formula")

    def word(self):
        """Go beyond the letters and figures that come next, and return them."""
        start = self.place
        while self.place < len(self.text) and self.text[self.place] in LETTERS + FIGURES:
            self.place += 1
        return self.text[start:self.place]

    def names(self, sign):
        """Go beyond names between single blanks and the sign behind them, and return the names."""
        found = [self.word()]
        while self.takes(" "):
            found.append(self.word())
        self.needs(sign)
        return tuple(found)

    def goes_in(self):
        """Note that a formula begins."""
        # Without this a text that is nested deep would be read in more nested calls than Python allows.
        if self.levels_left < 1:
            raise BadText("the text of a formula is nested too deep")
        self.levels_left -= 1

    def goes_out(self):
        """Note that a formula ends."""
        self.levels_left += 1


def _read_not(reader, word):
    body = _read_formula(reader)
    reader.needs(")")
    return (word, body)


def _read_joined(reader, word):
    found = [_read_formula(reader)]
    while reader.takes(", "):
        found.append(_read_formula(reader))
    reader.needs(")")
    return (word, tuple(found))


def _read_quantified(reader, word):
    variables = reader.names(": ")
    body = _read_formula(reader)
    reader.needs(")")
    return (word, variables, body)


def _read_fixed_point(reader, word):
    names = reader.names(": ")
    body = _read_formula(reader)
    reader.needs(")(")
    return (word, names[0], names[1:], body, reader.names(")"))


def _read_closure(reader, word):
    variables = reader.names(": ")
    body = _read_formula(reader)
    reader.needs(")(")
    return (word, variables, body, reader.names(")"))


def _read_guess(reader, word):
    name = reader.word()
    reader.needs(" ")
    arity = GUESS_ARITIES.get(reader.word())
    reader.needs(": ")
    body = _read_formula(reader)
    reader.needs(")")
    return (word, name, arity, body)


READERS = {
    "not": _read_not, "and": _read_joined, "or": _read_joined,
    "some": _read_quantified, "all": _read_quantified,
    "lfp": _read_fixed_point, "pfp": _read_fixed_point, "tc": _read_closure, "guess": _read_guess,
}


def _read_atom(reader, name):
    """Return the rel, eq or less that begins with a name."""
    if reader.takes("()"):
        return ("rel", name, ())
    if reader.takes("("):
        return ("rel", name, reader.names(")"))
    if reader.takes(" = "):
        return ("eq", name, reader.word())
    reader.needs(" < ")
    return ("less", name, reader.word())


def _read_formula(reader):
    """Return what has the form of a formula at the reader's place, and go beyond it."""
    reader.goes_in()
    word = reader.word()
    if word in EMPTY_OF_WORDS:
        found = EMPTY_OF_WORDS[word]
    elif word in READERS:
        reader.needs("(")
        read = READERS[word]
        found = read(reader, word)
    else:
        found = _read_atom(reader, word)
    reader.goes_out()
    return found


def read_text(text, most_deep):
    """Return the tuple that a text writes, which may still be no formula, or raise BadText."""
    if not isinstance(text, str):
        raise BadText("a textual form is a text")
    reader = Reader(text, most_deep)
    found = _read_formula(reader)
    if reader.place != len(text):
        raise BadText("something stands behind the text of a formula")
    return found
