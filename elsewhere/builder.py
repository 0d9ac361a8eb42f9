"""Derivations that are built step by step, where sequents may be smaller than the premises that they serve as."""

from elsewhere.derivation import pruned
from elsewhere.formula import FALSUM, verum
from elsewhere.rules import premises_of
from elsewhere.sequent import is_within


class Builder:
    """Steps in a logic, to which others are added. A step is told by its number, its index."""

    def __init__(self, logic):
        self.logic = logic
        self.steps = []

    def conclusion(self, number):
        """The conclusion of a step."""
        return self.steps[number][1]

    def is_within(self, number, whole):
        """Whether the conclusion of a step is a part of a sequent."""
        return is_within(self.conclusion(number), whole)

    def infer(self, rule, conclusion, main, given):
        """The number of a new step, for whose premises there are steps with these sequents or parts of them."""
        premises = premises_of(self.logic, rule, conclusion, main)
        numbers = [self.weakened(number, premise) for number, premise in zip(given, premises)]
        return self._put(rule, conclusion, main, numbers)

    def weakened(self, number, wanted):
        """The number of a step with a sequent of which another step has a part."""
        if self.conclusion(number) == wanted:
            return number
        return self._put("weaken", wanted, None, [number])

    def _put(self, rule, conclusion, main, numbers):
        self.steps.append((rule, conclusion, main, tuple(numbers)))
        return len(self.steps) - 1

    def axiom_step(self, a):
        """The step with a formula alone on both sides."""
        return self.infer("axiom", ((a,), (a,)), a, [])

    def falsum_step(self):
        """The step with `falsum` alone on the left."""
        return self.infer("falsum", ((FALSUM,), ()), None, [])

    def verum_step(self):
        """The step with `verum()` alone on the right."""
        return self.infer("implies_right", ((), (verum(),)), verum(), [self.falsum_step()])

    def derivation(self, number, wanted):
        """The derivation of a sequent of which a step has a part."""
        last = self.weakened(number, wanted)
        return pruned(self.steps[:last + 1])
