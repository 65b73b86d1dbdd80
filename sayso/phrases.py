"""Formulas that are put together for what a machine does: joined ones, and what they say of the order of elements."""

from sayso.shapes import MOST_JOINED

TRUE = ("and", ())
FALSE = ("or", ())


def _joined(word, parts):
    """Return the formula that joins a list of formulas by "and" or "or", however many they are."""
    parts = [part for given in parts for part in (given[1] if given[0] == word else (given,))]
    while len(parts) > MOST_JOINED:
        parts = [(word, tuple(parts[at:at + MOST_JOINED])) for at in range(0, len(parts), MOST_JOINED)]
    if len(parts) == 1:
        return parts[0]
    return (word, tuple(parts))


def all_of(parts):
    """Return the formula that holds if all formulas of a list do."""
    return _joined("and", parts)


def any_of(parts):
    """Return the formula that holds if one formula of a list does."""
    return _joined("or", parts)


def flagged(formula, flag):
    """Return a formula, or what denies it if the flag is False."""
    return formula if flag else ("not", formula)


def there_are(variables, parts):
    """Return the formula that says that there are elements for which all formulas of a list hold."""
    if not variables:
        return all_of(parts)
    return ("some", tuple(variables), all_of(parts))


def equal_parts(variables, others):
    """Return the list of formulas that say that variables have the same elements as others."""
    return [("eq", one, other) for one, other in zip(variables, others) if one != other]


def signs_of(number, count, low, high):
    """Return the tuple of so many variables, low or high ones, that writes a number in binary digits."""
    return tuple([high if number >> at & 1 else low for at in range(count)])


class Order:
    """What can be said of the order of elements, with names of variables from a source.

    If there are variables that are known to have the least and the greatest element, they make it shorter.
    """

    def __init__(self, source, least, greatest):
        self.source = source
        self.least = least
        self.greatest = greatest

    def fresh(self, count):
        """Return the list of so many fresh variables."""
        return [self.source.fresh() for _ in range(count)]

    def are_least(self, variables):
        """Return the list of formulas that say that variables have the least element."""
        return self._are_at(self.least, variables, True)

    def are_not_least(self, variables):
        """Return the formula that says that some of the variables, of which there is one, are not the least."""
        return self._are_not_at(self.least, variables, True)

    def are_greatest(self, variables):
        """Return the list of formulas that say that variables have the greatest element."""
        return self._are_at(self.greatest, variables, False)

    def are_not_greatest(self, variables):
        """Return the formula that says that some of the variables, of which there is one, are not the greatest."""
        return self._are_not_at(self.greatest, variables, False)

    def _are_at(self, end, variables, is_low):
        """Return the list of formulas that say that variables are at an end, of which there may be a variable."""
        if not variables or end is not None:
            return [("eq", variable, end) for variable in variables]
        return [("not", self._are_not_at(end, variables, is_low))]

    def _are_not_at(self, end, variables, is_low):
        """Return the formula that says that some of the variables are not at an end."""
        if end is not None:
            return ("not", all_of(self._are_at(end, variables, is_low)))
        other = self.source.fresh()
        beyond = [("less", other, variable) if is_low else ("less", variable, other) for variable in variables]
        return ("some", (other,), any_of(beyond))

    def steps(self, low, high, count):
        """Return the list of formulas that say that one variable is so many elements above another."""
        if count == 0:
            return equal_parts([low], [high])
        between = self.source.fresh()
        if count == 1:
            inside = all_of([("less", low, between), ("less", between, high)])
            return [("less", low, high), ("not", ("some", (between,), inside))]
        # Halves need fewer variables within one another than single steps would.
        half = count // 2
        return [there_are([between], self.steps(low, between, half) + self.steps(between, high, count - half))]

    def above_least(self, variable, count):
        """Return the list of formulas that say that a variable is so many elements above the least one."""
        if count == 0:
            return self.are_least([variable])
        if self.least is not None:
            return self.steps(self.least, variable, count)
        bottom = self.source.fresh()
        return [there_are([bottom], self.are_least([bottom]) + self.steps(bottom, variable, count))]

    def ends_told(self):
        """Return the formula that says that the variables for the least and the greatest element have these."""
        other = self.source.fresh()
        beyond = any_of([("less", other, self.least), ("less", self.greatest, other)])
        return ("not", ("some", (other,), beyond))

    def next_rows(self, before, after):
        """Return the formula that says that the tuple of some variables is the next one after that of others."""
        found = []
        for at in range(len(before)):
            found.append(all_of(
                equal_parts(before[:at], after[:at]) + self.steps(before[at], after[at], 1)
                + self.are_greatest(before[at + 1:]) + self.are_least(after[at + 1:])))
        return any_of(found)
