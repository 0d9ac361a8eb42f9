"""Equivalences between formulas in GL, with the steps of both directions.

An equation holds under some formulas, its hypotheses: these and its first formula give the second one, and these and
the second one give the first. The formulas of equations are told by their numbers (see elsewhere/numbering.py), and
the steps by their numbers in a builder (see elsewhere/builder.py).
"""

from elsewhere.builder import Builder
from elsewhere.folding import folded
from elsewhere.formula import iff
from elsewhere.numbering import Numbering
from elsewhere.rules import premises_of
from elsewhere.sequent import added

# The last rule and the one before, by which formulas with equivalent parts give each other. The main formula of a rule
# for the left side is the formula that is given, and that of a rule for the right side the one that is due.
RULES = {
    "and": ("and_left", "and_right"),
    "or": ("or_right", "or_left"),
    "implies": ("implies_right", "implies_left"),
}


class Equation:
    """Two formulas, the step from the first to the second one, and the step back."""

    def __init__(self, first, second, there, back):
        self.first = first
        self.second = second
        self.there = there
        self.back = back


def swapped(equation):
    """The equation in the other direction."""
    return Equation(equation.second, equation.first, equation.back, equation.there)


class Equations:
    """Equations whose steps are put into one builder."""

    def __init__(self):
        self.builder = Builder("GL")
        self.numbering = Numbering()

    def formula(self, number):
        """The formula with a number."""
        return self.numbering.formulas[number]

    def reflexive(self, number):
        """The equation of a formula and itself."""
        step = self.builder.axiom_step(self.formula(number))
        return Equation(number, number, step, step)

    def chained(self, hypotheses, equations):
        """The equation of the first formula of the first equation and the second one of the last equation."""
        whole = equations[0]
        for equation in equations[1:]:
            if whole.first == whole.second:
                whole = equation
            elif equation.first != equation.second:
                formulas = [self.formula(k) for k in (whole.first, whole.second, equation.second)]
                there = self._through(hypotheses, formulas, whole.there, equation.there)
                back = self._through(hypotheses, formulas[::-1], equation.back, whole.back)
                whole = Equation(whole.first, equation.second, there, back)
        return whole

    def _through(self, hypotheses, formulas, first, second):
        """The step from the first to the last of three formulas, which cuts the one between them."""
        a, b, c = formulas
        return self.builder.infer("cut", (added(hypotheses, [a]), (c,)), b, [first, second])

    def without(self, hypotheses, a, step, equation):
        """The equation without its hypothesis `a`, which a step gives."""
        first, second = self.formula(equation.first), self.formula(equation.second)
        there = self.builder.infer("cut", (added(hypotheses, [first]), (second,)), a, [step, equation.there])
        back = self.builder.infer("cut", (added(hypotheses, [second]), (first,)), a, [step, equation.back])
        return Equation(equation.first, equation.second, there, back)

    def as_iff(self, hypotheses, equation):
        """The step in which the hypotheses give the equivalence of both formulas."""
        first, second = self.formula(equation.first), self.formula(equation.second)
        given = []
        for a, b, step in ((first, second, equation.there), (second, first, equation.back)):
            whole = ("implies", a, b)
            given.append(self.builder.infer("implies_right", (hypotheses, (whole,)), whole, [step]))
        return self.builder.infer("and_right", (hypotheses, (iff(first, second),)), iff(first, second), given)

    def from_iff(self, first, second):
        """The equation of two formulas whose hypothesis is their equivalence."""
        a, b = self.formula(first), self.formula(second)
        there = self._from_iff(iff(a, b), ("implies", a, b))
        back = self._from_iff(iff(a, b), ("implies", b, a))
        return Equation(first, second, there, back)

    def _from_iff(self, whole, used):
        _, a, b = used
        goal = (added((whole,), [a]), (b,))
        premise = premises_of("GL", "and_left", goal, whole)[0]
        given = [self.builder.axiom_step(a), self.builder.axiom_step(b)]
        return self.builder.infer("and_left", goal, whole, [self.builder.infer("implies_left", premise, used, given)])

    def congruent(self, hypotheses, sign, equations):
        """The equation of what a sign makes of the first and of the second formulas of some equations.

        For `box` these equations have those hypotheses to which "modal" leads back.
        """
        first = self.numbering.made(sign, [equation.first for equation in equations])
        second = self.numbering.made(sign, [equation.second for equation in equations])
        if first == second:
            return self.reflexive(first)
        there = self._one_way(hypotheses, (first, second), equations)
        back = self._one_way(hypotheses, (second, first), [swapped(equation) for equation in equations])
        return Equation(first, second, there, back)

    def _one_way(self, hypotheses, numbers, equations):
        first, second = [self.formula(k) for k in numbers]
        goal = (added(hypotheses, [first]), (second,))
        given = [equation.there for equation in equations]
        if first[0] == "box":
            return self.builder.infer("modal", goal, second, given)
        if first[0] == "implies":
            given[0] = equations[0].back
        last, before = RULES[first[0]]
        main, other = (first, second) if last.endswith("_left") else (second, first)
        premise = premises_of("GL", last, goal, main)[0]
        return self.builder.infer(last, goal, main, [self.builder.infer(before, premise, other, given)])

    def rewritten(self, hypotheses, whole, leaves, through_boxes):
        """The equation of what a formula becomes if some subformulas become the first, or the second, of equations.

        `leaves` is the dict from the numbers of these subformulas to their equations. Other boxes stay as they are
        unless `through_boxes` is True; then "modal" has to lead back to the hypotheses.
        """
        def value_of(b, parts):
            number = self.numbering.number_from(b, [part for part, _ in parts])
            if number in leaves:
                return (number, leaves[number])
            if not parts or b[0] == "box" and not through_boxes:
                return (number, self.reflexive(number))
            return (number, self.congruent(hypotheses, b[0], [equation for _, equation in parts]))

        _, equation = folded(self.formula(whole), value_of)
        return equation

    def exchanged(self, whole, values, through_boxes):
        """The number of what a formula becomes if some subformulas become others; all are told by their numbers."""
        def value_of(b, parts):
            number = self.numbering.number_from(b, [part for part, _ in parts])
            if number in values:
                return (number, values[number])
            if not parts or b[0] == "box" and not through_boxes:
                return (number, number)
            return (number, self.numbering.made(b[0], [part for _, part in parts]))

        _, number = folded(self.formula(whole), value_of)
        return number
