"""Fixed points of formulas in GL, with the steps of their equations (points 9.4 to 9.6 of the document).

For each outermost box of a formula that contains the variable, the formula with truth in place of the box has a fixed
point, as it has fewer of these boxes. Put for the variable in the box, it gives what takes the place of the box. That
this is right, is shown along the usual lines: at a world at which such a box is true, and above it, the whole formula
and the one with truth in place of the box have the same fixed points, and there are no different ones.
"""

from elsewhere.equations import Equation, Equations, swapped
from elsewhere.folding import distinct, parts_of
from elsewhere.formula import iff, variables, verum
from elsewhere.sequent import added
from elsewhere.simplifying import simplifying


def outer_boxes(a, name):
    """The ascending list of the outermost boxes of a formula that contain a variable."""
    found = []
    level = [a]
    while level:
        found.extend([b for b in level if b[0] == "box" and name in variables(b)])
        level = distinct([part for b in level if b[0] != "box" for part in parts_of(b)])
    return distinct(found)


class Fixing:
    """Fixed points for one variable, whose equations are put together. Formulas are told by their numbers."""

    def __init__(self, name):
        self.name = name
        self.equations = Equations()
        self.builder = self.equations.builder
        self.variable = self.equations.numbering.number(("var", name))
        self.truth = self.equations.numbering.number(verum())

    def fixed_point(self, a):
        """The equation of a fixed point of a formula and of what the formula becomes with it."""
        whole = self.equations.numbering.number(a)
        boxes = [self.equations.numbering.number(b) for b in outer_boxes(a, self.name)]
        if not boxes:
            return self._simplified(whole, self.equations.reflexive(whole))
        if len(boxes) == 1:
            return self._simplified(whole, self._of_one(whole, boxes[0]))
        return self._simplified(whole, self._of_two(whole, boxes))

    def _simplified(self, whole, equation):
        simpler = simplifying(self.equations, self.equations.formula(equation.first))
        if simpler.first == simpler.second:
            return equation
        put = self.equations.rewritten((), whole, {self.variable: simpler}, True)
        return self.equations.chained((), [swapped(simpler), equation, put])

    def _inner(self, box):
        """The formula inside of a box."""
        return self.equations.numbering.number(self.equations.formula(box)[1])

    def _with_truth(self, whole, box):
        """The equation of a fixed point of a formula in which truth stands in place of a box."""
        return self.fixed_point(self.equations.formula(self.equations.exchanged(whole, {box: self.truth}, False)))

    def _box_with(self, box, number):
        """The box with a formula in place of the variable."""
        return self.equations.exchanged(box, {self.variable: number}, True)

    def _of_one(self, whole, box):
        below = self._with_truth(whole, box)
        fixed = self._box_with(box, below.first)
        hypotheses = (self.equations.formula(fixed),)
        # Where the box in the fixed point is true, truth may stand in its place.
        given = self.builder.axiom_step(hypotheses[0])
        true = Equation(self.truth, fixed, given, self.builder.verum_step())
        up = self.equations.rewritten(hypotheses, whole, {box: true}, False)
        equation = self.equations.chained(hypotheses, [below, up])
        parts = self.equations.rewritten(hypotheses, self._inner(box), {self.variable: equation}, True)
        # The hypothesis is one of the two boxes: "modal" gives it back, whichever of them is due.
        return self.equations.rewritten((), whole, {box: self.equations.congruent((), "box", [parts])}, False)

    def _of_two(self, whole, boxes):
        below = [self._with_truth(whole, box) for box in boxes]
        fixed = [self._box_with(box, equation.first) for box, equation in zip(boxes, below)]
        point = self.equations.exchanged(whole, dict(zip(boxes, fixed)), False)
        due = [self._box_with(box, point) for box in boxes]
        all_equal = ("and", self._iff(fixed[0], due[0]), self._iff(fixed[1], due[1]))
        pairs = [self._part_of(all_equal, first, second) for first, second in zip(fixed, due)]
        given = []
        for k in (0, 1):
            parts = self._parts(all_equal, whole, (boxes[k], boxes[1 - k]), (pairs[k], pairs[1 - k]), below[k])
            pair = self.equations.congruent((("box", all_equal),), "box", [parts])
            given.append(self.equations.as_iff((("box", all_equal),), pair))
        inside = self.builder.infer("and_right", ((("box", all_equal),), (all_equal,)), all_equal, given)
        step = self._by_induction((), all_equal, inside)
        step = self.builder.infer("cut", ((), (all_equal,)), ("box", all_equal), [step, inside])
        equation = self.equations.rewritten((all_equal,), whole, dict(zip(boxes, pairs)), False)
        return self.equations.without((), all_equal, step, equation)

    def _iff(self, first, second):
        return iff(self.equations.formula(first), self.equations.formula(second))

    def _by_induction(self, hypotheses, a, step):
        """The step for the box of a formula, which the hypotheses give together with this box itself."""
        return self.builder.infer("modal", (hypotheses, (("box", a),)), ("box", a), [step])

    def _part_of(self, all_equal, first, second):
        """The equation of two boxes whose hypothesis is a conjunction with their equivalence."""
        equation = self.equations.from_iff(first, second)
        steps = []
        for a, b, step in ((first, second, equation.there), (second, first, equation.back)):
            goal = (added((all_equal,), [self.equations.formula(a)]), (self.equations.formula(b),))
            steps.append(self.builder.infer("and_left", goal, all_equal, [step]))
        return Equation(first, second, steps[0], steps[1])

    def _parts(self, all_equal, whole, boxes, pairs, below):
        """The equation of the insides of a box in a fixed point of the whole and of the box with this fixed point.

        The box and its pair stand ahead of the other ones. The hypotheses are that the pairs are equal, here and
        above, and that the box with the fixed point is true.
        """
        boxed = ("box", all_equal)
        due = self.equations.formula(pairs[0].second)
        hypotheses = added((all_equal,), [boxed, due])
        true = Equation(self.truth, pairs[0].first, pairs[0].back, self.builder.verum_step())
        up = self.equations.rewritten(hypotheses, whole, {boxes[0]: true, boxes[1]: swapped(pairs[1])}, False)
        equal = self._iff(below.first, up.second)
        more = added(hypotheses, [("box", equal)])
        across = self._across(self.equations.exchanged(whole, {boxes[0]: self.truth}, False), boxes[1], below, up)
        equation = self.equations.chained(more, [below, across, up])
        step = self.equations.as_iff(more, equation)
        step = self._by_induction(added((boxed,), [due]), equal, step)
        equation = self.equations.without(hypotheses, ("box", equal), step, equation)
        return self.equations.rewritten(hypotheses, self._inner(boxes[0]), {self.variable: equation}, True)

    def _across(self, whole, box, below, up):
        """The equation of what a formula becomes with two formulas whose equivalence holds everywhere above."""
        equal = self._iff(below.first, up.second)
        leaves = {self.variable: self.equations.from_iff(below.first, up.second)}
        inside = self.equations.rewritten(added((equal,), [("box", equal)]), self._inner(box), leaves, True)
        boxed = self.equations.congruent((("box", equal),), "box", [inside])
        return self.equations.rewritten((("box", equal),), whole, {box: boxed}, False)
