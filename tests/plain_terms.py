"""Plain versions of what the document says of terms, by recursion, and terms for tests."""

import functools

from tests.samples import Dice, F, P, Q, R, land, lor, to

# For each kind of term its parts, each with the number of assumptions that it binds there.
PARTS = {
    "at": [], "fun": [(2, 1)], "call": [(1, 0), (2, 0)], "pair": [(1, 0), (2, 0)], "first": [(1, 0)], "second": [(1, 0)],
    "left": [(1, 0)], "right": [(1, 0)], "case": [(1, 0), (2, 1), (3, 1)], "absurd": [(1, 0)],
}

TYPES = [P, Q, R, F, to(P, Q), land(P, Q), lor(P, Q), to(lor(P, Q), R), land(to(P, F), Q), lor(F, land(P, P)), to(P, to(Q, P))]


class Wrong(Exception):
    """A term has no type."""


def exchanged(term, place, part):
    return (*term[:place], part, *term[place + 1:])


def plain_type(context, term):
    """The type of a term in a context; Wrong if there is none."""
    sign = term[0]
    if sign == "at":
        if term[1] >= len(context):
            raise Wrong
        return context[term[1]]
    if sign == "fun":
        return to(term[1], plain_type([term[1], *context], term[2]))
    first = plain_type(context, term[1])
    if sign == "pair":
        return land(first, plain_type(context, term[2]))
    if sign == "left":
        return lor(first, term[2])
    if sign == "right":
        return lor(term[2], first)
    if sign == "absurd" and first == F:
        return term[2]
    if sign == "call" and first[0] == "implies" and first[1] == plain_type(context, term[2]):
        return first[2]
    if sign in ("first", "second") and first[0] == "and":
        return first[1 if sign == "first" else 2]
    if sign == "case" and first[0] == "or":
        one, other = plain_type([first[1], *context], term[2]), plain_type([first[2], *context], term[3])
        if one == other:
            return one
    raise Wrong


def plain_lifted(term, by, above):
    if term[0] == "at":
        return ("at", term[1] + by) if term[1] >= above else term
    for place, bound in PARTS[term[0]]:
        term = exchanged(term, place, plain_lifted(term[place], by, above + bound))
    return term


def plain_put(term, value, depth=0):
    if term[0] == "at":
        k = term[1]
        return plain_lifted(value, depth, 0) if k == depth else ("at", k - 1) if k > depth else term
    for place, bound in PARTS[term[0]]:
        term = exchanged(term, place, plain_put(term[place], value, depth + bound))
    return term


def contracted(term):
    """What a redex contracts to; None for other terms."""
    head = term[1][0] if term[0] in ("call", "first", "second", "case") else None
    if (term[0], head) == ("call", "fun"):
        return plain_put(term[1][2], term[2])
    if (term[0], head) == ("first", "pair"):
        return term[1][1]
    if (term[0], head) == ("second", "pair"):
        return term[1][2]
    if (term[0], head) == ("case", "left"):
        return plain_put(term[2], term[1][1])
    if (term[0], head) == ("case", "right"):
        return plain_put(term[3], term[1][1])
    return None


def plain_steps(term):
    """The list of the terms that come of contracting each of the redexes of a term, the first redex first."""
    found = [contracted(term)] if contracted(term) is not None else []
    for place, _ in PARTS[term[0]]:
        found += [exchanged(term, place, part) for part in plain_steps(term[place])]
    return found


def inside_out(term):
    """The normal term that is reached if parts are made normal ahead of the whole."""
    for place, _ in PARTS[term[0]]:
        term = exchanged(term, place, inside_out(term[place]))
    after = contracted(term)
    return term if after is None else inside_out(after)


def plain_weight(term):
    return 1 + sum(plain_weight(term[place]) for place, _ in PARTS[term[0]])


def drawn_context(dice, many):
    return [TYPES[dice.below(len(TYPES))] for _ in range(many)]


def term_of_type(dice, context, a, depth):
    """A drawn term of a type in a context, or None if none was met."""
    for _ in range(3):
        found = _tried(dice, context, a, depth)
        if found is not None:
            return found
    return None


def _tried(dice, context, a, depth):
    places = [k for k, b in enumerate(context) if b == a]
    if places and (depth == 0 or dice.below(3) == 0):
        return ("at", places[dice.below(len(places))])
    if depth == 0:
        return ("absurd", ("at", context.index(F)), a) if F in context and dice.below(3) == 0 else None
    kind = dice.below(8)
    if kind < 3 and a[0] in ("implies", "and", "or"):
        return _made(dice, context, a, depth)
    if kind == 3:
        b = TYPES[dice.below(len(TYPES))]
        return _with(dice, context, "call", [to(b, a), b], depth)
    if kind == 4:
        b = TYPES[dice.below(len(TYPES))]
        sign, whole = (("first", land(a, b)), ("second", land(b, a)))[dice.below(2)]
        return _with(dice, context, sign, [whole], depth)
    if kind == 5:
        return _case(dice, context, a, depth)
    if kind == 6:
        given = [k for k, b in enumerate(context) if b[0] == "implies" and b[2] == a]
        return _with_head(dice, context, given, depth)
    inner = term_of_type(dice, context, F, depth - 1) if dice.below(3) == 0 else None
    return None if inner is None else ("absurd", inner, a)


def _made(dice, context, a, depth):
    if a[0] == "implies":
        body = term_of_type(dice, [a[1], *context], a[2], depth - 1)
        return None if body is None else ("fun", a[1], body)
    if a[0] == "and":
        return _with(dice, context, "pair", [a[1], a[2]], depth)
    side = 1 + dice.below(2)
    inner = term_of_type(dice, context, a[side], depth - 1)
    return None if inner is None else (("left", "right")[side - 1], inner, a[3 - side])


def _with(dice, context, sign, types, depth):
    parts = [term_of_type(dice, context, b, depth - 1) for b in types]
    return None if None in parts else (sign, *parts)


def _with_head(dice, context, places, depth):
    if not places:
        return None
    k = places[dice.below(len(places))]
    given = term_of_type(dice, context, context[k][1], depth - 1)
    return None if given is None else ("call", ("at", k), given)


def _case(dice, context, a, depth):
    one, other = (TYPES[dice.below(len(TYPES))] for _ in range(2))
    parts = [
        term_of_type(dice, context, lor(one, other), depth - 1), term_of_type(dice, [one, *context], a, depth - 1),
        term_of_type(dice, [other, *context], a, depth - 1),
    ]
    return None if None in parts else ("case", *parts)


def detoured(dice, context, term):
    """A term of the same type with more redexes, at the top and inside of the parts."""
    for k, (place, bound) in enumerate(PARTS[term[0]]):
        inner = context
        if term[0] == "fun":
            inner = [term[1], *context]
        elif bound:
            inner = [plain_type(context, term[1])[k], *context]
        # The first part of a case keeps its type, so this is done before or behind it alike.
        term = exchanged(term, place, detoured(dice, inner, term[place]))
    a = plain_type(context, term)
    kind = dice.below(16)
    other = dice.below(len(context)) if context else None
    if kind == 0:
        return ("call", ("fun", a, ("at", 0)), term)
    if kind == 1 and context:
        return ("call", ("fun", context[other], plain_lifted(term, 1, 0)), ("at", other))
    if kind == 2 and context:
        return ("first", ("pair", term, ("at", other)))
    if kind == 3 and context:
        return ("second", ("pair", ("at", other), term))
    if kind == 4:
        return ("case", ("left", term, Q), ("at", 0), plain_lifted(term, 1, 0))
    if kind == 5:
        return ("case", ("right", term, R), plain_lifted(term, 1, 0), ("at", 0))
    return term


@functools.lru_cache(maxsize=None)
def drawn_terms(seed, many, depth):
    """A tuple of triples of a context, a term with a type in it, and its type."""
    dice = Dice(seed)
    found = []
    while len(found) < many:
        context = drawn_context(dice, dice.below(5))
        a = TYPES[dice.below(len(TYPES))]
        if dice.below(2):
            a = to(TYPES[dice.below(len(TYPES))], a)
        term = term_of_type(dice, context, a, 1 + dice.below(depth))
        if term is not None:
            found.append((context, detoured(dice, context, term), a))
    return tuple(found)


def numeral(n, base=P):
    """The term that applies a function n times."""
    body = ("at", 0)
    for _ in range(n):
        body = ("call", ("at", 1), body)
    return ("fun", to(base, base), ("fun", base, body))
