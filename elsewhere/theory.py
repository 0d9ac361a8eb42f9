"""Theories: a logic and a list of formulas, the axioms."""

from elsewhere.decision import decide
from elsewhere.errors import Inconsistent, NoAxiom, NotPlain, NotValid, OtherLogic
from elsewhere.formula import is_plain
from elsewhere.logics import INTERMEDIATE, check_logic
from elsewhere.sequent import sequent


class Theory:
    """A logic and axioms, which can be assumed and dropped."""

    def __init__(self, logic):
        check_logic(logic)
        self.logic = logic
        self._axioms = []

    def assume(self, a):
        """Adds an axiom and tells whether it is a new one."""
        if self.logic in INTERMEDIATE and not is_plain(a):
            raise NotPlain("a box is in no axiom of this logic")
        if a in self._axioms:
            return False
        self._axioms.append(a)
        return True

    def drop(self, a):
        """Removes an axiom."""
        if a not in self._axioms:
            raise NoAxiom("the formula is no axiom")
        self._axioms.remove(a)

    def axioms(self):
        """The list of the axioms."""
        return list(self._axioms)

    def ask(self, a):
        """The decision whether a formula follows from the axioms."""
        return self._decided(self._axioms, [a])

    def is_consistent(self):
        """Whether a model has a world at which all axioms hold."""
        return not self._decided(self._axioms, []).is_valid()

    def model(self):
        """A model of the logic, and a world of it at which all axioms hold."""
        decision = self._decided(self._axioms, [])
        if decision.is_valid():
            raise Inconsistent("the axioms hold together nowhere")
        return (decision.model(), decision.world())

    def redundant(self):
        """The list of the axioms that follow from the other ones."""
        return [a for k, a in enumerate(self._axioms) if self._gives(_without(self._axioms, k), a)]

    def core(self, a):
        """A list of axioms from which a formula follows, but not if one of them is left out."""
        if not self.ask(a).is_valid():
            raise NotValid("the formula does not follow")
        kept = self.axioms()
        for k in range(len(kept) - 1, -1, -1):
            if self._gives(_without(kept, k), a):
                del kept[k]
        return kept

    def independent(self):
        """A list of axioms from which all axioms follow, and none of which follows from the others."""
        kept = self.axioms()
        for k in range(len(kept) - 1, -1, -1):
            if self._gives(_without(kept, k), kept[k]):
                del kept[k]
        return kept

    def compare(self, other):
        """Whether all axioms of the other theory follow from this one, and whether all of this one from the other."""
        if self.logic != other.logic:
            raise OtherLogic("the theories have different logics")
        mine, others = self.axioms(), other.axioms()
        there = all([self._gives(mine, a) for a in others])
        return (there, all([self._gives(others, a) for a in mine]))

    def _decided(self, left, right):
        return decide(self.logic, sequent(left, right))

    def _gives(self, formulas, a):
        """Whether a formula follows from others."""
        return self._decided(formulas, [a]).is_valid()


def _without(rows, k):
    return rows[:k] + rows[k + 1:]
