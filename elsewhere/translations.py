"""Translations between logics: of formulas and of models."""

from elsewhere.errors import NotPlain, WrongFrame
from elsewhere.folding import folded
from elsewhere.formula import is_plain, neg, verum
from elsewhere.logics import is_frame_of
from elsewhere.model import Model


def _check_plain(a):
    if not is_plain(a):
        raise NotPlain("only plain formulas are translated")


def box_translation(a):
    """The formula with `box` in front of each variable and each implication."""
    _check_plain(a)

    def value_of(b, parts):
        if b[0] == "var":
            return ("box", b)
        if b[0] == "implies":
            return ("box", ("implies", *parts))
        return (b[0], *parts)
    return folded(a, value_of)


def strong_boxes(a):
    """The formula in which each `box` also says that its formula is true here."""
    def value_of(b, parts):
        if b[0] == "var":
            return b
        if b[0] == "box":
            return ("and", parts[0], ("box", parts[0]))
        return (b[0], *parts)
    return folded(a, value_of)


def double_negation(a):
    """The formula with doubly negated variables and without `or`."""
    _check_plain(a)

    def value_of(b, parts):
        if b[0] == "var":
            return neg(neg(b))
        if b[0] == "or":
            return neg(("and", neg(parts[0]), neg(parts[1])))
        return (b[0], *parts)
    return folded(a, value_of)


def at_reflexive(a):
    """The formula without its boxes: what it says at a world that sees itself alone."""
    def value_of(b, parts):
        if b[0] == "var":
            return b
        if b[0] == "box":
            return parts[0]
        return (b[0], *parts)
    return folded(a, value_of)


def at_blind(a):
    """The formula with truth in place of its boxes: what it says at a world that sees none."""
    def value_of(b, parts):
        if b[0] == "var":
            return b
        if b[0] == "box":
            return verum()
        return (b[0], *parts)
    return folded(a, value_of)


def _check_frame(logic, model):
    if not is_frame_of(logic, model.frame()):
        raise WrongFrame("the frame of the model is not one of the logic that is due")


def skeleton(model):
    """The model of the sets of worlds that see each other, and the list of the numbers of the sets."""
    _check_frame("S4", model)
    worlds, pairs = model.frame()
    classes = _classes(model)
    small_pairs = sorted({(classes[v], classes[w]) for v, w in pairs})
    values = {}
    for name, places in model.true_worlds().items():
        true = {v: True for v in places}
        values[name] = [classes[v] for v in range(worlds) if all([w in true for w in model.seen(v)])]
    return (Model((max(classes) + 1, tuple(small_pairs)), values), classes)


def _classes(model):
    """The list that tells for each world the number of the set of those that see it and that it sees."""
    worlds, _ = model.frame()
    rows = [model.seen(v) for v in range(worlds)]
    classes = []
    many = 0
    for v in range(worlds):
        least = [w for w in rows[v] if v in rows[w]][0]
        if least == v:
            classes.append(many)
            many += 1
        else:
            classes.append(classes[least])
    return classes


def blind_copy(model):
    """The model in which no world sees itself, from a model of Grz."""
    _check_frame("Grz", model)
    worlds, pairs = model.frame()
    return Model((worlds, tuple([(v, w) for v, w in pairs if v != w])), model.true_worlds())


def seeing_copy(model):
    """The model in which each world sees itself, too, from a model of GL."""
    _check_frame("GL", model)
    worlds, pairs = model.frame()
    seeing = sorted([*pairs, *[(v, v) for v in range(worlds)]])
    return Model((worlds, tuple(seeing)), model.true_worlds())
