"""Decisions: a derivation, or a model that refutes."""

from elsewhere.calculus import Calculus
from elsewhere.countermodel import countermodel
from elsewhere.errors import IsValid, NotPlain, NotValid
from elsewhere.formula import is_plain
from elsewhere.logics import INTERMEDIATE, MODAL, check_logic
from elsewhere.search import PROVED, Search
from elsewhere.sequent import sequent


class Decision:
    """The answer for a sequent: either the steps of a derivation, or a model and a world that refutes it."""

    def __init__(self, steps, model, world):
        self._steps = steps
        self._model = model
        self._world = world

    def is_valid(self):
        """Whether the sequent is valid."""
        return self._model is None

    def derivation(self):
        """A derivation of the sequent."""
        if not self.is_valid():
            raise NotValid("the sequent has no derivation")
        return list(self._steps)

    def model(self):
        """A model that refutes the sequent."""
        self._check_refuted()
        return self._model

    def world(self):
        """A world of the model that refutes the sequent."""
        self._check_refuted()
        return self._world

    def _check_refuted(self):
        if self.is_valid():
            raise IsValid("no model refutes the sequent")


def decide(logic, goal):
    """The decision of a sequent."""
    check_logic(logic)
    formulas = [*goal[0], *goal[1]]
    if logic in INTERMEDIATE and not all([is_plain(a) for a in formulas]):
        raise NotPlain("a formula of the sequent has a box")
    calculus = Calculus(logic, formulas)
    left, right = calculus.universe.mask(goal[0]), calculus.universe.mask(goal[1])
    search = Search(calculus)
    node = search.result(left, right)
    if node.state == PROVED:
        return Decision(search.book.written_out(node.proof, left, right), None, 0)
    return Decision([], countermodel(calculus, node), 0)


def decide_formula(logic, a):
    """The decision of the sequent of a formula alone on the right."""
    return decide(logic, sequent([], [a]))


def valid_in(a):
    """The list of the names of the logics in which a formula is valid."""
    logics = [*MODAL, *INTERMEDIATE] if is_plain(a) else list(MODAL)
    return [logic for logic in logics if decide_formula(logic, a).is_valid()]


def equivalent(logic, a, b):
    """Whether each of two formulas implies the other one in a logic."""
    there = decide_formula(logic, ("implies", a, b))
    back = decide_formula(logic, ("implies", b, a))
    return there.is_valid() and back.is_valid()


def follows(logic, formulas, a):
    """Whether a formula follows from the formulas of a list."""
    return decide(logic, sequent(formulas, [a])).is_valid()
