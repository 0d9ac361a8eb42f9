"""Sequents on whose left side each variable or its negation stands: there classical truth tells everything."""

from elsewhere.calculus import NO_MAIN
from elsewhere.formula import neg
from elsewhere.universe import bits


def is_settled(calculus, left, right):
    """Whether each variable of a sequent or its negation is on its left."""
    if calculus.logic not in ("BD2", "HT"):
        return False
    for k in bits(calculus.names_in(left | right)):
        if not (left & ((1 << k) | _negation(calculus, k))):
            return False
    return True


def _negation(calculus, k):
    return calculus.universe.mask([neg(calculus.universe.formulas[k])])


def settled_proof(book, left, right):
    """The number of a part of a settled sequent that has a derivation, or -1 if the sequent is refuted."""
    truth = Settled(book, left)
    for k in bits(left):
        if not truth.is_true(k):
            return truth.refuted(k)
    for k in bits(right):
        if truth.is_true(k):
            return truth.proved(k)
    return -1


class Settled:
    """The truth of formulas where the variables on a left side are true and the others false."""

    def __init__(self, book, left):
        self.book = book
        self.calculus = book.calculus
        self.left = left
        self.truths = {}
        self.proofs = {}

    def is_true(self, k):
        """Whether a formula is true."""
        if k not in self.truths:
            self.truths[k] = self._truth(k)
        return self.truths[k]

    def _truth(self, k):
        sign, parts = self._sign_and_parts(k)
        if sign == "var":
            return (self.left >> k) & 1 == 1
        if sign == "falsum":
            return False
        first, second = [self.is_true(part) for part in parts]
        if sign == "and":
            return first and second
        if sign == "or":
            return first or second
        return second or not first

    def _sign_and_parts(self, k):
        return (self.calculus.universe.formulas[k][0], [bits(part)[0] for part in self.calculus.parts[k]])

    def proved(self, k):
        """The number of the derivation of a true formula from variables and negations of variables on the left."""
        if k not in self.proofs:
            self.proofs[k] = self._proof(k)
        return self.proofs[k]

    def refuted(self, k):
        """The number of the derivation of nothing from a false formula, and from variables and their negations."""
        if k not in self.proofs:
            self.proofs[k] = self._refutation(k)
        return self.proofs[k]

    def _proof(self, k):
        sign, parts = self._sign_and_parts(k)
        if sign == "var":
            return self._infer("axiom", k, [])
        first, second = parts
        if sign == "and":
            return self._infer("and_right", k, [self.proved(first), self.proved(second)])
        if sign == "or":
            return self._infer("or_right", k, [self.proved(first if self.is_true(first) else second)])
        if self.is_true(second):
            return self._infer("implies_right", k, [self.proved(second)])
        return self._infer("implies_right", k, [self.refuted(first)])

    def _refutation(self, k):
        sign, parts = self._sign_and_parts(k)
        if sign == "falsum":
            return self._infer("falsum", NO_MAIN, [])
        if sign == "var":
            negation = bits(_negation(self.calculus, k))[0]
            nothing = self._infer("falsum", NO_MAIN, [])
            return self._infer("implies_left", negation, [self._infer("axiom", k, []), nothing])
        first, second = parts
        if sign == "and":
            return self._infer("and_left", k, [self.refuted(second if self.is_true(first) else first)])
        if sign == "or":
            return self._infer("or_left", k, [self.refuted(first), self.refuted(second)])
        return self._infer("implies_left", k, [self.proved(first), self.refuted(second)])

    def _infer(self, rule, main, given):
        return self.book.infer(rule, main, (self.left, 0), given)
