"""Interpolants with the derivations of both halves, and simpler forms of formulas."""

from elsewhere.decision import decide
from elsewhere.errors import NoInterpolants
from elsewhere.folding import folded
from elsewhere.formula import FALSUM, verum
from elsewhere.halves import Halves
from elsewhere.logics import check_logic

LOGICS = ("K", "D", "T", "K4", "D4", "S4", "GL", "Grz", "Cl")


def interpolant(logic, a, b):
    """An interpolant of two formulas, a derivation of it from the first, and one of the second from it."""
    check_logic(logic)
    if logic not in LOGICS:
        raise NoInterpolants("the logic is none of those with interpolants")
    # These raise NotPlain and NotValid.
    steps = decide(logic, ((a,), (b,))).derivation()
    halves = Halves(logic)
    c, first, second = halves.of_derivation(steps, (((a,), ()), ((), (b,))))
    builder = halves.builder
    return (c, builder.derivation(first, ((a,), (c,))), builder.derivation(second, ((c,), (b,))))


def simplified(a):
    """The formula without parts that are always or never true beside others, and without equal parts."""
    return folded(a, simplified_from)


def simplified_from(a, parts):
    """The simplified form of a formula from those of its parts."""
    if a[0] in ("var", "falsum"):
        return a
    if a[0] == "box":
        return verum() if parts[0] == verum() else ("box", parts[0])
    simpler = SIMPLER[a[0]]
    return simpler(parts[0], parts[1])


def _simpler_and(a, b):
    if a == FALSUM or b == FALSUM:
        return FALSUM
    if a == verum() or a == b:
        return b
    return a if b == verum() else ("and", a, b)


def _simpler_or(a, b):
    if a == verum() or b == verum():
        return verum()
    if a == FALSUM or a == b:
        return b
    return a if b == FALSUM else ("or", a, b)


def _simpler_implies(a, b):
    if a == FALSUM or b == verum() or a == b:
        return verum()
    return b if a == verum() else ("implies", a, b)


SIMPLER = {"and": _simpler_and, "or": _simpler_or, "implies": _simpler_implies}
