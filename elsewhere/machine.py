"""Normal terms, found by a machine that keeps its own stacks, so that terms may be as deep as they like.

The machine evaluates a term only until its outermost sign is settled. What stands inside of it is delayed: it is
evaluated if it is needed, and then once for all places that share it. In the end the values are read back as terms.
In values an assumption is told by its level instead of its number: 0, 1, .. for those that were met on the way into
the term, the outermost one first, and -1, -2, .. for those of the context, the innermost one first.
"""

from elsewhere.branches import PLACES, with_parts

# The terms whose first part is evaluated, because they may be redexes.
OPENING = ("call", "first", "second", "case")


class Delayed:
    """A term in a scope, and as soon as it is evaluated, its value.

    `head` is its first part if this is evaluated ahead of it; `follows` is what has the same value.
    """

    def __init__(self, term, scope, value):
        self.term = term
        self.scope = scope
        self.value = value
        self.head = None
        self.follows = None


class Scope:
    """What the innermost assumption stands for, and the scope of the others."""

    def __init__(self, inner, outer):
        self.inner = inner
        self.outer = outer


class Value:
    """A term whose outermost sign is settled, in a scope; `parts` are those of its parts that bind nothing, delayed.

    For an assumption the term is `("at", level)`.
    """

    def __init__(self, term, scope, parts):
        self.term = term
        self.scope = scope
        self.parts = parts


def _assumption(level):
    return Delayed(None, None, Value(("at", level), None, []))


def _delayed(term, scope):
    if term[0] != "at":
        return Delayed(term, scope, None)
    k = term[1]
    while k > 0 and scope is not None:
        scope = scope.outer
        k -= 1
    return _assumption(-1 - k) if scope is None else scope.inner


def _evaluate(goal):
    """Gives something delayed its value."""
    waiting = [goal]
    while waiting:
        needed = _needed(waiting[-1])
        if needed is None:
            waiting.pop()
        else:
            waiting.append(needed)


def _needed(here):
    """What has to be evaluated first; None if `here` has got its value."""
    if here.value is not None:
        return None
    if here.follows is None:
        if here.head is None and here.term[0] in OPENING:
            here.head = _delayed(here.term[1], here.scope)
        if here.head is not None and here.head.value is None:
            return here.head
        _settle(here)
    if here.value is None:
        if here.follows.value is None:
            return here.follows
        here.value = here.follows.value
    return None


def _settle(here):
    """Sets the value of something delayed, or what it follows; its head has been evaluated."""
    term, scope = here.term, here.scope
    if term[0] == "at":
        here.follows = _delayed(term, scope)
        return
    if here.head is None:
        here.value = Value(term, scope, [_delayed(term[k], scope) for k, bound in PLACES[term[0]] if bound == 0])
        return
    head = here.head.value
    signs = (term[0], head.term[0])
    if signs == ("call", "fun"):
        here.follows = Delayed(head.term[2], Scope(_delayed(term[2], scope), head.scope), None)
    elif signs == ("first", "pair"):
        here.follows = head.parts[0]
    elif signs == ("second", "pair"):
        here.follows = head.parts[1]
    elif signs == ("case", "left"):
        here.follows = Delayed(term[2], Scope(head.parts[0], scope), None)
    elif signs == ("case", "right"):
        here.follows = Delayed(term[3], Scope(head.parts[0], scope), None)
    elif term[0] == "call":
        here.value = Value(term, scope, [here.head, _delayed(term[2], scope)])
    else:
        here.value = Value(term, scope, [here.head])


def evaluated(term):
    """The normal term that a term leads to."""
    root = Delayed(term, None, None)
    opened = {}
    found = {}
    waiting = [(root, 0)]
    while waiting:
        here, depth = waiting[-1]
        _evaluate(here)
        key = (here.value, depth)
        if key not in opened:
            opened[key] = _opened(here.value, depth)
        missing = [(part, inner) for part, inner in opened[key] if (part.value, inner) not in found]
        if missing:
            waiting.append(missing[0])
        else:
            waiting.pop()
            found[key] = _read(here.value, depth, [found[(part.value, inner)] for part, inner in opened[key]])
    return found[(root.value, 0)]


def _opened(value, depth):
    """The parts of a value, each with its depth; what is bound by the value is a new assumption in them."""
    parts = list(value.parts)
    found = []
    for place, bound in PLACES[value.term[0]]:
        if bound == 0:
            found.append((parts.pop(0), depth))
        else:
            inner = Scope(_assumption(depth), value.scope)
            found.append((_delayed(value.term[place], inner), depth + 1))
    return found


def _read(value, depth, parts):
    """The term of a value at a depth, from the terms of its parts."""
    if value.term[0] == "at":
        return ("at", depth - 1 - value.term[1])
    return with_parts(value.term, parts)
