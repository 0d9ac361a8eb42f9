"""Numbered formulas, and sets of them as integers.

A search meets the same few formulas in very many sequents. Therefore they are numbered once, in ascending order, and
a set of them is a mask: the integer whose bit `k` is set if formula number `k` is in the set.
"""

from elsewhere.folding import levels_from, parts_of, place_of
from elsewhere.formula import subformulas_of


def bits(mask):
    """The ascending list of the numbers of the bits that are set in a mask."""
    found = []
    while mask:
        lowest = mask & -mask
        found.append(lowest.bit_length() - 1)
        mask = mask ^ lowest
    return found


class Universe:
    """All subformulas of some formulas, in ascending order.

    `formulas` is their list, `parts` has the tuple of the masks of the parts of each one, `names` the mask of the
    variables that occur in it, and `signed` the mask of all formulas of each sign.
    """

    def __init__(self, formulas):
        self.formulas = subformulas_of(formulas)
        self.parts = [tuple([self.mask([b]) for b in parts_of(a)]) for a in self.formulas]
        self.signed = {"var": 0, "falsum": 0, "and": 0, "or": 0, "implies": 0, "box": 0}
        for k, a in enumerate(self.formulas):
            self.signed[a[0]] = self.signed[a[0]] | (1 << k)
        self.names = [0] * len(self.formulas)
        self._fill_names(formulas)

    def mask(self, formulas):
        """The mask of some formulas, all of which are numbered."""
        found = 0
        for a in formulas:
            found = found | (1 << place_of(self.formulas, a))
        return found

    def side(self, mask):
        """The ascending tuple of the formulas of a mask."""
        return tuple([self.formulas[k] for k in bits(mask)])

    def names_in(self, mask):
        """The mask of the variables that occur in the formulas of a mask."""
        found = 0
        for k in bits(mask):
            found = found | self.names[k]
        return found

    def _fill_names(self, formulas):
        # From the last level on: there the parts of each formula come before the formula.
        for level in reversed(levels_from(formulas)):
            for a in level:
                k = place_of(self.formulas, a)
                self.names[k] = 1 << k if a[0] == "var" else self.names_in(self.mask(parts_of(a)))
