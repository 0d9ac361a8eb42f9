"""Numbers for formulas: equal formulas have the same number, however their tuples were made.

Formulas may be too great to be compared part by part again and again; their numbers are compared at once.
"""

from elsewhere.folding import folded


class Numbering:
    """The formulas that have got numbers.

    `formulas` is their list, in which each part of a formula is shared; `rows` has for each of them the tuple of its
    sign and of the numbers of its parts, or the variable itself.
    """

    def __init__(self):
        self.numbers = {}
        self.formulas = []
        self.rows = []

    def number(self, a):
        """The number of a formula."""
        return folded(a, lambda b, parts: self.number_from(b, parts))

    def number_from(self, a, parts):
        """The number of a formula whose parts have the numbers that are given."""
        if a[0] == "var":
            return self._put(a, a)
        return self.made(a[0], parts)

    def made(self, sign, parts):
        """The number of the formula that a sign makes of formulas with the numbers that are given."""
        return self._put((sign, *parts), (sign, *[self.formulas[k] for k in parts]))

    def _put(self, key, a):
        if key not in self.numbers:
            self.numbers[key] = len(self.formulas)
            self.formulas.append(a)
            self.rows.append(key)
        return self.numbers[key]
