"""The rules of a logic over masks (see elsewhere/universe.py)."""

from elsewhere.dropping import PARTS, PREMISES
from elsewhere.folding import contains
from elsewhere.formula import neg, subformulas_of
from elsewhere.universe import Universe, bits

ALONE = ("Int", "KC", "LC", "BD2", "HT")
REFLEXIVE = ("T", "S4", "S5", "Grz")
NO_MAIN = -1

LEFT_RULES = {"and": "and_left", "or": "or_left", "implies": "implies_left"}
RIGHT_RULES = {"and": "and_right", "or": "or_right", "implies": "implies_right"}


class Calculus:
    """The rules of a logic over the subformulas of some formulas, and whatever else its rules add to them."""

    def __init__(self, logic, formulas):
        extra = _extra_formulas(logic, formulas)
        universe = Universe([*formulas, *extra])
        self.logic = logic
        self.universe = universe
        self.parts = universe.parts
        self.names = universe.names
        self.boxes = universe.signed["box"]
        self.implications = universe.signed["implies"]
        self.falsum = universe.signed["falsum"]
        self.on_left = [self._with_adds(k, self._left_rule(a[0])) for k, a in enumerate(universe.formulas)]
        self.on_right = [self._with_adds(k, self._right_rule(a[0])) for k, a in enumerate(universe.formulas)]
        self.box_around = [0] * len(self.parts)
        self.modal_extra = [0] * len(self.parts)
        for k in bits(self.boxes):
            self.box_around[bits(self.parts[k][0])[0]] = 1 << k
            self.modal_extra[k] = self._modal_extra(k)
        self.middles = universe.mask(extra) if logic in ("BD2", "HT") else 0
        self.weak_middles = extra if logic == "KC" else []

    def _left_rule(self, sign):
        if sign == "box" and self.logic in REFLEXIVE:
            return "reflexive"
        return LEFT_RULES.get(sign)

    def _right_rule(self, sign):
        rule = RIGHT_RULES.get(sign)
        return None if rule is None or self.drops(rule) else rule

    def _with_adds(self, k, rule):
        """A rule that drops nothing, with what its premises add for a main formula."""
        return None if rule is None else (rule, self.adds(rule, k))

    def _modal_extra(self, k):
        """What the premise of "modal" has on its left beside what it keeps."""
        whole = self.universe.formulas[k]
        if self.logic == "GL":
            return 1 << k
        if self.logic == "Grz" and contains(self.universe.formulas, _persistence(whole)):
            return self.universe.mask([_persistence(whole)])
        return 0

    def drops(self, rule):
        """Whether a premise of a rule drops formulas of the conclusion."""
        return rule in PREMISES and (rule != "implies_right" or self.logic in ALONE)

    def adds(self, rule, main):
        """What each premise adds to both sides, for a rule that drops nothing."""
        own = 1 << main
        if rule == "cut":
            return ((0, own), (own, 0))
        if rule == "weak_middle":
            return ((own, 0),)
        if rule == "reflexive":
            return ((self.parts[main][0], 0),)
        a, b = self.parts[main]
        if rule == "and_left":
            return ((a | b, 0),)
        if rule == "and_right":
            return ((0, a), (0, b))
        if rule == "or_left":
            return ((a, 0), (b, 0))
        if rule == "or_right":
            return ((0, a | b),)
        if rule == "implies_left":
            return ((0, a), (b, 0))
        return ((a, b),)

    def premises(self, rule, main, left, right):
        """The list of the premises of a rule."""
        if rule in ("axiom", "falsum"):
            return []
        if self.drops(rule):
            make = PREMISES[rule]
            return make(self, main, left, right)
        return [(left | more, right | other) for more, other in self.adds(rule, main)]

    def part(self, rule, main, whole, parts):
        """A small part of a conclusion, whose premises contain the given parts of the premises of the whole."""
        if rule == "axiom":
            return (1 << main, 1 << main)
        if rule == "falsum":
            return (self.falsum, 0)
        if self.drops(rule):
            make = PARTS[rule]
            return make(self, main, whole[0], whole[1], parts)
        left = right = 0
        for (more, other), (used, others) in zip(self.adds(rule, main), parts):
            left = left | (used & ~more)
            right = right | (others & ~other)
        if rule.endswith("_left") or rule == "reflexive":
            return (left | (1 << main), right)
        if rule.endswith("_right"):
            return (left, right | (1 << main))
        return (left, right)

    def names_in(self, mask):
        """The mask of the variables that occur in the formulas of a mask."""
        return self.universe.names_in(mask)

    def middles_of(self, mask):
        """The mask of the excluded middles of the variables that occur in the formulas of a mask."""
        found = 0
        names = self.names_in(mask)
        for k in bits(self.middles):
            if self.names[k] & names:
                found = found | (1 << k)
        return found


def _extra_formulas(logic, formulas):
    """The formulas that the rules of a logic add, except subformulas and falsum."""
    inside = subformulas_of(formulas)
    names = [a for a in inside if a[0] == "var"]
    if logic == "Grz":
        return [_persistence(a) for a in inside if a[0] == "box"]
    if logic == "KC":
        return [("or", neg(a), neg(neg(a))) for a in names]
    if logic in ("BD2", "HT"):
        return [("or", a, neg(a)) for a in names]
    return []


def _persistence(whole):
    return ("box", ("implies", whole[1], whole))
