"""Terms: their types, their weights, and the terms that come of them by other numbers of assumptions."""

from elsewhere.branches import Branches, with_parts
from elsewhere.typed import Typed


def type_of(context, term):
    """The formula that a term has in a context."""
    typed = Typed(context, term)
    return typed.formula(typed.of_whole())


def weight(term):
    """The number of all occurrences of terms in a term."""
    return Branches(term).all_values(lambda inner, depth, parts: 1 + sum(parts))[0]


def lifted(term, by, above):
    """The term with greater numbers of those assumptions that are bound outside of it, except the innermost ones."""
    def value_of(inner, depth, parts):
        if inner[0] != "at":
            return with_parts(inner, parts)
        return ("at", inner[1] + by) if inner[1] >= depth + above else inner

    return Branches(term).all_values(value_of)[0]


def put(term, value):
    """The term with another one in place of the assumption number 0."""
    branches = Branches(term)
    depths = sorted({depth for depth, inner in branches.nodes if inner == ("at", depth)})
    values = {depth: lifted(value, depth, 0) for depth in depths}

    def value_of(inner, depth, parts):
        if inner[0] != "at":
            return with_parts(inner, parts)
        if inner[1] == depth:
            return values[depth]
        return ("at", inner[1] - 1) if inner[1] > depth else inner

    return branches.all_values(value_of)[0]
