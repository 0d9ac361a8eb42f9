"""Formulas: tuples of a sign and of parts, compared as tuples."""

from elsewhere.folding import distinct, folded, levels_from, levels_of

FALSUM = ("falsum",)


def neg(a):
    """The negation of a formula."""
    return ("implies", a, FALSUM)


def verum():
    """The formula that is always true."""
    return neg(FALSUM)


def dia(a):
    """The formula that says that `a` is true somewhere that can be seen from here."""
    return neg(("box", neg(a)))


def iff(a, b):
    """The equivalence of two formulas."""
    return ("and", ("implies", a, b), ("implies", b, a))


def conjunction(formulas):
    """The formulas of a list joined by `and`, grouped to the right."""
    return _grouped("and", formulas, verum())


def disjunction(formulas):
    """The formulas of a list joined by `or`, grouped to the right."""
    return _grouped("or", formulas, FALSUM)


def _grouped(sign, formulas, nothing):
    if not formulas:
        return nothing
    whole = formulas[-1]
    for a in reversed(formulas[:-1]):
        whole = (sign, a, whole)
    return whole


def height(a):
    """The number of levels of a formula."""
    return len(levels_of(a))


def size(a):
    """The number of all occurrences of subformulas in a formula."""
    return folded(a, lambda b, sizes: 1 + sum(sizes))


def modal_depth(a):
    """The greatest number of `box` that stand inside one another."""
    return folded(a, _depth_of)


def _depth_of(a, depths):
    deepest = max(depths, default=0)
    if a[0] == "box":
        return deepest + 1
    return deepest


def is_plain(a):
    """Whether no `box` occurs in a formula."""
    return not boxes(a)


def subformulas(a):
    """The ascending list of all formulas that occur in a formula, itself included."""
    return subformulas_of([a])


def subformulas_of(formulas):
    """The ascending list of all formulas that occur in some formulas, these included."""
    return distinct([b for level in levels_from(formulas) for b in level])


def variables(a):
    """The ascending list of the names of the variables of a formula."""
    return variables_of([a])


def variables_of(formulas):
    """The ascending list of the names of the variables of some formulas."""
    return distinct([b[1] for level in levels_from(formulas) for b in level if b[0] == "var"])


def boxes(a):
    """The ascending list of the subformulas that are a `box`."""
    return [b for b in subformulas(a) if b[0] == "box"]


def substitute(a, values):
    """The formula with other formulas in place of the variables that are keys of a dict."""
    def value_of(b, parts):
        if b[0] == "var":
            return values.get(b[1], b)
        return (b[0], *parts)
    return folded(a, value_of)


def replace_boxes(a, values):
    """The formula with other formulas in place of the outermost `box` formulas that are keys of a dict."""
    def value_of(b, parts):
        if b[0] == "var":
            return b
        # What was put into the parts of a key is dropped here, so only outermost keys are replaced.
        return _value_at(values, b, (b[0], *parts))
    return folded(a, value_of)


def _value_at(values, a, otherwise):
    # The keys are compared one by one, because formulas are too deep to be looked up.
    if a[0] == "box":
        for key, value in values.items():
            if key == a:
                return value
    return otherwise


def polarities(a):
    """The dict from the name of each variable to whether it occurs positively, and whether negatively."""
    return folded(a, _polarities_of)


def _polarities_of(a, parts):
    if a[0] == "var":
        return {a[1]: (True, False)}
    found = {}
    for k, signs in enumerate(parts):
        turned = a[0] == "implies" and k == 0
        for name, (positive, negative) in signs.items():
            if turned:
                positive, negative = negative, positive
            before = found.get(name, (False, False))
            found[name] = (before[0] or positive, before[1] or negative)
    return found


def is_guarded(a, name):
    """Whether every occurrence of a variable stands inside a `box`."""
    def value_of(b, parts):
        if b[0] == "var":
            return b[1] != name
        return b[0] == "box" or all(parts)
    return folded(a, value_of)
