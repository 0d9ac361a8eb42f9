"""The rules: the premises that a rule has for a conclusion and a main formula."""

from elsewhere.errors import NoFit
from elsewhere.folding import contains
from elsewhere.formula import FALSUM, is_plain, neg, variables_of
from elsewhere.logics import INTERMEDIATE, check_logic
from elsewhere.sequent import added, sequent

# Each rule below is a function of the logic, the two sides of the conclusion and the main formula.


def _axiom(logic, left, right, main):
    if main is None or not contains(left, main) or not contains(right, main):
        raise NoFit("the main formula is not on both sides")
    return []


def _falsum(logic, left, right, main):
    _check_no_main(main)
    if not contains(left, FALSUM):
        raise NoFit("falsum is not on the left")
    return []


def _and_left(logic, left, right, main):
    return [(added(left, _parts("and", main, left)), right)]


def _and_right(logic, left, right, main):
    a, b = _parts("and", main, right)
    return [(left, added(right, [a])), (left, added(right, [b]))]


def _or_left(logic, left, right, main):
    a, b = _parts("or", main, left)
    return [(added(left, [a]), right), (added(left, [b]), right)]


def _or_right(logic, left, right, main):
    return [(left, added(right, _parts("or", main, right)))]


def _implies_left(logic, left, right, main):
    a, b = _parts("implies", main, left)
    return [(left, added(right, [a])), (added(left, [b]), right)]


def _implies_right(logic, left, right, main):
    a, b = _parts("implies", main, right)
    if logic in INTERMEDIATE and logic != "Cl":
        return [(added(left, [a]), (b,))]
    return [(added(left, [a]), added(right, [b]))]


def _cut(logic, left, right, main):
    if main is None or logic in INTERMEDIATE and not is_plain(main):
        raise NoFit("there is no formula that can be cut")
    return [(left, added(right, [main])), (added(left, [main]), right)]


def _reflexive(logic, left, right, main):
    return [(added(left, _parts("box", main, left)), right)]


def _modal(logic, left, right, main):
    inner = _parts("box", main, right)[0]
    more = []
    if logic == "GL":
        more = [main]
    if logic == "Grz":
        more = [("box", ("implies", inner, main))]
    others = _signed("box", right) if logic == "S5" else []
    return [sequent([*kept(logic, left), *more], [inner, *others])]


def _serial(logic, left, right, main):
    _check_no_main(main)
    return [sequent(kept(logic, left), [])]


def _weak_middle(logic, left, right, main):
    if main is None or main[0] != "or" or main[1][0] != "implies":
        raise NoFit("the main formula is not of the form that is due")
    a = main[1][1]
    if main != ("or", neg(a), neg(neg(a))) or not is_plain(a):
        raise NoFit("the main formula is not of the form that is due")
    return [(added(left, [main]), right)]


def _linear_right(logic, left, right, main):
    _check_no_main(main)
    implications = _implications(right)
    premises = []
    for a in implications:
        others = [b for b in implications if b != a]
        premises.append((added(left, [a[1]]), added(others, [a[2]])))
    return premises


def _depth_right(logic, left, right, main):
    a, b = _parts("implies", main, right)
    decided = added(left, [a, *_middles(left, right)])
    return [(added(left, [a]), added(right, [b])), (decided, (b,))]


def _two_right(logic, left, right, main):
    _check_no_main(main)
    implications = _implications(right)
    premises = [(added(left, [a[1]]), added(right, [a[2]])) for a in implications]
    premises.append((added(left, _middles(left, right)), tuple(implications)))
    return premises


def _check_no_main(main):
    if main is not None:
        raise NoFit("the rule has no main formula")


def _parts(sign, main, side):
    """The parts of the main formula, which has to have a sign and to be on a side."""
    if main is None or main[0] != sign or not contains(side, main):
        raise NoFit("the main formula has another sign, or is not on the side that is due")
    return main[1:]


def _signed(sign, side):
    return [a for a in side if a[0] == sign]


def _implications(right):
    found = _signed("implies", right)
    if not found:
        raise NoFit("no implication is on the right")
    return found


def kept(logic, left):
    """What the premise of "modal" and "serial" keeps of the left side."""
    boxed = _signed("box", left)
    if logic in ("S4", "S5", "Grz"):
        return boxed
    inner = [a[1] for a in boxed]
    if logic in ("K", "D", "T"):
        return inner
    return inner + boxed


def _middles(left, right):
    """The excluded middles of the variables of a sequent."""
    names = variables_of([*left, *right])
    return [("or", ("var", name), neg(("var", name))) for name in names]


RULES = {
    "axiom": _axiom,
    "falsum": _falsum,
    "and_left": _and_left,
    "and_right": _and_right,
    "or_left": _or_left,
    "or_right": _or_right,
    "implies_left": _implies_left,
    "implies_right": _implies_right,
    "cut": _cut,
    "reflexive": _reflexive,
    "modal": _modal,
    "serial": _serial,
    "weak_middle": _weak_middle,
    "linear_right": _linear_right,
    "depth_right": _depth_right,
    "two_right": _two_right,
}

# The logics of the rules that do not belong to all of them.
LOGICS = {
    "reflexive": ("T", "S4", "S5", "Grz"),
    "modal": ("K", "D", "T", "K4", "D4", "S4", "S5", "GL", "Grz"),
    "serial": ("D", "D4"),
    "weak_middle": ("KC",),
    "linear_right": ("LC",),
    "depth_right": ("BD2",),
    "two_right": ("HT",),
}


def premises_of(logic, rule, conclusion, main):
    """The list of the premises of a rule for a conclusion and a main formula."""
    check_logic(logic)
    if rule not in RULES or rule in LOGICS and logic not in LOGICS[rule]:
        raise NoFit("the logic has no such rule")
    left, right = conclusion
    premises = RULES[rule]
    return premises(logic, left, right, main)
