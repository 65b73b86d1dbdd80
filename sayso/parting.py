"""Formulas that tell what the challenger of a game with pebbles does to win."""

from sayso.pebbles import told_apart


class Writer:
    """The formulas of the positions of a game from which the challenger can win.

    The formula of a position holds in the first structure for the elements of its pairs, and does not hold in the
    second one. Formulas are numbered, so that equal ones are found without a look into them: written out, they may be
    so large that nobody could do that.
    """

    def __init__(self, game):
        self.game = game
        self.number_of = {}
        self.formulas = []
        self.sizes = []
        self.written = {}

    def formula_of(self, position):
        """Return the formula of a position."""
        return self.formulas[self._write(position)]

    def _numbered(self, key, formula, size):
        """Return the number of a formula with so many parts, which equal formulas share."""
        if key not in self.number_of:
            self.number_of[key] = len(self.formulas)
            self.formulas.append(formula)
            self.sizes.append(size)
        return self.number_of[key]

    def _write(self, position):
        """Return the number of the formula of a position."""
        if position not in self.written:
            rounds = self.game.lengths[position]
            self.written[position] = self._won_by_move(position, rounds) if rounds else self._won_now(position)
        return self.written[position]

    def _won_now(self, position):
        """Return the number of the formula that tells why a position is not sound."""
        places = [at for at, entry in enumerate(position) if entry is not None]
        name, told, flag = told_apart(self.game.first, self.game.second, [position[at] for at in places])
        variables = tuple([f"v{places[place] + 1}" for place in told])
        formula = ("eq",) + variables if name == "=" else ("rel", name, variables)
        if flag:
            return self._numbered((name, variables, flag), formula, 1)
        return self._numbered((name, variables, flag), ("not", formula), 2)

    def _won_by_move(self, position, rounds):
        """Return the number of the smallest formula that tells of a move which wins in so many rounds."""
        found = []
        for at in range(len(position)):
            for is_first, pairs in self.game.choices:
                reached = [position[:at] + (pair,) + position[at + 1:] for pair in pairs]
                if all([self.game.lengths.get(after, rounds) < rounds for after in reached]):
                    found.append(self._move(at, is_first, [self._write(after) for after in reached]))
        return min(found, key=lambda number: self.sizes[number])

    def _move(self, at, is_first, answers):
        """Return the number of the formula that tells of a move of an entry, by those of what comes of the answers."""
        numbers = sorted(set(answers))
        inside = self.formulas[numbers[0]]
        size = 1 + sum([self.sizes[number] for number in numbers])
        if len(numbers) > 1:
            inside = ("and" if is_first else "or", tuple([self.formulas[number] for number in numbers]))
            size += 1
        word = "some" if is_first else "all"
        return self._numbered((word, at, tuple(numbers)), (word, (f"v{at + 1}",), inside), size)
