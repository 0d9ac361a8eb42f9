"""What a search has found to have derivations, and how the steps are written out."""

from elsewhere.calculus import NO_MAIN


class Found:
    """A sequent that follows by a rule from parts of its premises, whose numbers are `given`."""

    def __init__(self, rule, main, sides, given):
        self.rule = rule
        self.main = main
        self.left, self.right = sides
        self.given = given


class Book:
    """The list of the sequents that were found to have derivations; each one rests on earlier ones."""

    def __init__(self, calculus):
        self.calculus = calculus
        self.rows = []
        self.numbers = {}
        self.remembered = {}

    def infer(self, rule, main, whole, given):
        """The number of a part of the sequent `whole` that follows by a rule from what has been found."""
        parts = [(self.rows[k].left, self.rows[k].right) for k in given]
        sides = self.calculus.part(rule, main, whole, parts)
        if sides not in self.numbers:
            self.numbers[sides] = len(self.rows)
            self.rows.append(Found(rule, main, sides, given))
        return self.numbers[sides]

    def is_within(self, number, left, right):
        """Whether what was found is a part of a sequent."""
        row = self.rows[number]
        return not (row.left & ~left) and not (row.right & ~right)

    def remember(self, number):
        """Lets `part_of` find a sequent."""
        row = self.rows[number]
        if row.given:
            self.remembered.setdefault((row.left, row.right), number)

    def part_of(self, left, right):
        """The number of a remembered sequent that is a part of the given one, or -1."""
        for (own_left, own_right), number in self.remembered.items():
            if not (own_left & ~left) and not (own_right & ~right):
                return number
        return -1

    def written_out(self, number, left, right):
        """The derivation of a sequent of which a part was found."""
        writer = Writer(self.calculus)
        for k in self._needed(number):
            writer.write(k, self.rows[k])
        writer.weakened(number, left, right)
        return writer.written

    def _needed(self, number):
        """The ascending list of the numbers of all that something rests on."""
        needed = [False] * number + [True]
        for k in range(number, -1, -1):
            if needed[k]:
                for other in self.rows[k].given:
                    needed[other] = True
        return [k for k, used in enumerate(needed) if used]


class Writer:
    """The steps of a derivation while they are written out."""

    def __init__(self, calculus):
        self.calculus = calculus
        self.written = []
        self.sides = {}
        self.places = {}
        self.weaker = {}

    def write(self, number, row):
        """Writes the step of what was found, behind what its premises need."""
        premises = self.calculus.premises(row.rule, row.main, row.left, row.right)
        numbers = [self.weakened(k, left, right) for k, (left, right) in zip(row.given, premises)]
        main = None if row.main == NO_MAIN else self.calculus.universe.formulas[row.main]
        self.places[number] = (self._put(row.rule, row.left, row.right, main, numbers), row.left, row.right)

    def weakened(self, number, left, right):
        """The index of a step with a sequent of which a part was found."""
        place, own_left, own_right = self.places[number]
        if (own_left, own_right) == (left, right):
            return place
        key = (number, left, right)
        if key not in self.weaker:
            self.weaker[key] = self._put("weaken", left, right, None, [place])
        return self.weaker[key]

    def _put(self, rule, left, right, main, numbers):
        self.written.append((rule, (self._side(left), self._side(right)), main, tuple(numbers)))
        return len(self.written) - 1

    def _side(self, mask):
        if mask not in self.sides:
            self.sides[mask] = self.calculus.universe.side(mask)
        return self.sides[mask]
