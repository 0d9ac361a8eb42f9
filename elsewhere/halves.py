"""The halves of divided sequents, from which interpolants are made.

Each divided sequent (see elsewhere/dividing.py) of a derivation gets a half: a formula `c` and the numbers of two
steps. The first step has the first part with `c` on its right, or a part of this; the second one has the second part
with `c` on its left, or a part of this. If `c` is `falsum`, the first step does without it, and if it is `verum()`,
the second one does.
"""

from elsewhere.builder import Builder
from elsewhere.dividing import division_key, divisions, part_of_main, premise_divisions
from elsewhere.folding import contains
from elsewhere.formula import FALSUM, neg, verum
from elsewhere.rules import premises_of
from elsewhere.sequent import added

BOXES_ONLY = ("S4", "Grz")


def _with_left(part, a):
    return (added(part[0], [a]), part[1])


def _with_right(part, a):
    return (part[0], added(part[1], [a]))


def _first_goal(division, c):
    return division[0] if c == FALSUM else _with_right(division[0], c)


def _second_goal(division, c):
    return division[1] if c == verum() else _with_left(division[1], c)


class Halves:
    """The halves of a derivation in a logic, whose steps are put into one builder."""

    def __init__(self, logic):
        self.logic = logic
        self.builder = Builder(logic)
        self.nothing = self.builder.falsum_step()
        self.truth = self.builder.verum_step()

    def of_derivation(self, steps, last):
        """The half of a division of the last sequent of a derivation without cuts."""
        tables = divisions(self.logic, steps, last)
        found = [{} for _ in steps]
        for k, step in enumerate(steps):
            numbers = step[3]
            premises = [steps[number][1] for number in numbers]
            for key, division in tables[k].items():
                parts = premise_divisions(self.logic, step, division, premises)
                keys = [division_key(premise, part) for premise, part in zip(premises, parts)]
                halves = [found[number][part_key] for number, part_key in zip(numbers, keys)]
                found[k][key] = self._short(division, self._half(step, division, halves))
        return found[-1][division_key(steps[-1][1], last)]

    def _short(self, division, half):
        """The half with `falsum` or `verum()` instead of its formula if a step does without this."""
        c, first, second = half
        if c != FALSUM and self.builder.is_within(first, division[0]):
            return (FALSUM, first, self.nothing)
        if c != verum() and self.builder.is_within(second, division[1]):
            return (verum(), self.truth, second)
        return half

    def _half(self, step, division, halves):
        rule, _, main, _ = step
        if rule == "weaken":
            return halves[0]
        if rule == "falsum":
            return self._of_falsum(division)
        if rule == "axiom":
            return self._of_axiom(main, division)
        if rule == "serial":
            return self._of_serial(division, halves[0])
        place = part_of_main(step, division)
        if rule == "modal" and place == 0:
            return self._of_first_box(main, division, halves[0])
        if rule == "modal":
            return self._of_second_box(main, division, halves[0])
        for half in halves:
            if self._does_without_rule(place, division, half):
                return half
        if len(halves) == 1:
            return self._of_one(rule, main, place, division, halves[0])
        if place == 0:
            return self._of_two_first(rule, main, division, halves)
        return self._of_two_second(rule, main, division, halves)

    def _does_without_rule(self, place, division, half):
        c, first, second = half
        if place == 0:
            return self.builder.is_within(first, _first_goal(division, c))
        return self.builder.is_within(second, _second_goal(division, c))

    def _of_falsum(self, division):
        if contains(division[0][0], FALSUM):
            return (FALSUM, self.nothing, self.nothing)
        return (verum(), self.truth, self.nothing)

    def _of_axiom(self, main, division):
        if main == FALSUM:
            return self._of_falsum(division)
        first, second = division
        if main == verum():
            # It has a derivation alone, so the part on whose right it is needs nothing else.
            if contains(first[1], main):
                return (FALSUM, self.truth, self.nothing)
            return (main, self.truth, self.truth)
        axiom = self.builder.axiom_step(main)
        if contains(first[0], main) and contains(first[1], main):
            return (FALSUM, axiom, self.nothing)
        if contains(second[0], main) and contains(second[1], main):
            return (verum(), self.truth, axiom)
        if contains(first[0], main):
            return (main, axiom, axiom)
        c = neg(main)
        both = added((main,), [c])
        right = self.builder.infer("implies_right", ((), both), c, [axiom])
        return (c, right, self.builder.infer("implies_left", (both, ()), c, [axiom, self.nothing]))

    def _of_one(self, rule, main, place, division, half):
        """The half behind a rule with one premise."""
        c, first, second = half
        if place == 0:
            return (c, self.builder.infer(rule, _first_goal(division, c), main, [first]), second)
        return (c, first, self.builder.infer(rule, _second_goal(division, c), main, [second]))

    def _of_two_first(self, rule, main, division, halves):
        """The half behind a rule with two premises and a main formula in the first part."""
        for c, _, second in halves:
            if c == verum():
                return (c, self.truth, second)
        c = _joined("or", halves[0][0], halves[1][0], FALSUM)
        goal = _first_goal(division, c)
        given = []
        for premise, (inner, first, _) in zip(premises_of(self.logic, rule, goal, main), halves):
            lifted = inner not in (c, FALSUM)
            given.append(self.builder.infer("or_right", premise, c, [first]) if lifted else first)
        right = self.builder.infer(rule, goal, main, given)
        for inner, _, second in halves:
            if inner == c:
                return (c, right, second)
        left = _with_left(division[1], c)
        return (c, right, self.builder.infer("or_left", left, c, [second for _, _, second in halves]))

    def _of_two_second(self, rule, main, division, halves):
        """The half behind a rule with two premises and a main formula in the second part."""
        for c, first, _ in halves:
            if c == FALSUM:
                return (c, first, self.nothing)
        c = _joined("and", halves[0][0], halves[1][0], verum())
        goal = _second_goal(division, c)
        given = []
        for premise, (inner, _, second) in zip(premises_of(self.logic, rule, goal, main), halves):
            lifted = inner not in (c, verum())
            given.append(self.builder.infer("and_left", premise, c, [second]) if lifted else second)
        left = self.builder.infer(rule, goal, main, given)
        for inner, first, _ in halves:
            if inner == c:
                return (c, first, left)
        right = _with_right(division[0], c)
        return (c, self.builder.infer("and_right", right, c, [first for _, first, _ in halves]), left)

    def _of_serial(self, division, half):
        c, first, second = half
        if c == verum():
            return (c, self.truth, self.builder.infer("serial", division[1], None, [second]))
        if c == FALSUM:
            return (c, self.builder.infer("serial", division[0], None, [first]), self.nothing)
        whole = ("box", c)
        right = self.builder.infer("modal", _with_right(division[0], whole), whole, [first])
        return (whole, right, self.builder.infer("serial", _with_left(division[1], whole), None, [second]))

    def _of_second_box(self, main, division, half):
        """The half behind "modal" with a main formula in the second part: a box."""
        c, first, second = half
        if c == verum():
            return (c, self.truth, self.builder.infer("modal", division[1], main, [second]))
        whole = ("box", c)
        right = self.builder.infer("modal", _with_right(division[0], whole), whole, [first])
        goal = _with_left(division[1], whole)
        inner = self._unboxed(goal, main, whole, second)
        return (whole, right, self.builder.infer("modal", goal, main, [inner]))

    def _of_first_box(self, main, division, half):
        """The half behind "modal" with a main formula in the first part: a negated box of a negation."""
        c, first, second = half
        if c == FALSUM:
            return (c, self.builder.infer("modal", division[0], main, [first]), self.nothing)
        turned = FALSUM if c == verum() else neg(c)
        boxed = ("box", turned)
        right = self._first_of_box(main, division[0], (turned, boxed), first)
        goal = _with_left(division[1], neg(boxed))
        beside = _with_right(goal, boxed)
        if turned != FALSUM:
            premise = premises_of(self.logic, "modal", beside, boxed)[0]
            second = self.builder.infer("implies_right", premise, turned, [second])
        inner = self.builder.infer("modal", beside, boxed, [second])
        return (neg(boxed), right, self.builder.infer("implies_left", goal, neg(boxed), [inner, self.nothing]))

    def _first_of_box(self, main, part, formulas, first):
        """The first step for a negated box, where `first` has its formula without the negation on the right."""
        turned, boxed = formulas
        goal = _with_right(part, neg(boxed))
        under = premises_of(self.logic, "implies_right", goal, neg(boxed))[0]
        inner = self.nothing
        if turned != FALSUM:
            premise = _with_left(premises_of(self.logic, "modal", under, main)[0], turned)
            inner = self.builder.infer("implies_left", premise, turned, [first, self.nothing])
        inner = self._unboxed(under, main, boxed, inner)
        below = self.builder.infer("modal", under, main, [inner])
        return self.builder.infer("implies_right", goal, neg(boxed), [below])

    def _unboxed(self, goal, main, boxed, number):
        """A step for the premise of "modal", from one that has the inner formula of a box of the goal on its left."""
        if self.logic not in BOXES_ONLY:
            return number
        premise = premises_of(self.logic, "modal", goal, main)[0]
        return self.builder.infer("reflexive", premise, boxed, [number])


def _joined(sign, a, b, neutral):
    """Two formulas joined by a sign, where equal ones and a neutral one are left out."""
    if b in (a, neutral):
        return a
    return b if a == neutral else (sign, a, b)
