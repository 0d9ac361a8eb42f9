"""Simpler forms of formulas in GL, with the steps that show that they are equivalent."""

from elsewhere.equations import Equation
from elsewhere.folding import contains, folded
from elsewhere.formula import FALSUM, verum
from elsewhere.interpolation import simplified_from
from elsewhere.rules import premises_of

LEFT_RULES = {"and": "and_left", "or": "or_left", "implies": "implies_left"}
RIGHT_RULES = {"and": "and_right", "or": "or_right", "implies": "implies_right", "box": "modal"}

NONE = -1


def simplifying(equations, a):
    """The equation of a formula and its simplified form; its steps are put into the builder of some equations."""
    def value_of(b, parts):
        if not parts:
            return equations.reflexive(equations.numbering.number_from(b, []))
        whole = equations.congruent((), b[0], parts)
        return equations.chained((), [whole, _simpler(equations, whole.second)])

    return folded(a, value_of)


def _simpler(equations, number):
    """The equation of a formula with simplified parts and its own simplified form."""
    a = equations.formula(number)
    simple = equations.numbering.number(simplified_from(a, a[1:]))
    if simple == number:
        return equations.reflexive(number)
    b = equations.formula(simple)
    return Equation(number, simple, _in_one_step(equations.builder, a, b), _in_one_step(equations.builder, b, a))


def _in_one_step(builder, a, b):
    """The step from one formula to another, where one of them is the simplified form of the other."""
    goal = ((a,), (b,))
    step = _closed(builder, goal)
    if step == NONE and a[0] in LEFT_RULES:
        step = _inferred(builder, LEFT_RULES[a[0]], goal, a)
    if step == NONE:
        step = _inferred(builder, RIGHT_RULES[b[0]], goal, b)
    return step


def _inferred(builder, rule, goal, main):
    """The step by a rule all of whose premises are closed, or NONE."""
    given = [_closed(builder, premise) for premise in premises_of(builder.logic, rule, goal, main)]
    if NONE in given:
        return NONE
    return builder.infer(rule, goal, main, given)


def _closed(builder, goal):
    """The step for a part of a sequent that holds at once, or NONE."""
    left, right = goal
    for a in left:
        if contains(right, a):
            return builder.axiom_step(a)
    if contains(left, FALSUM):
        return builder.falsum_step()
    if contains(right, verum()):
        return builder.verum_step()
    return NONE
