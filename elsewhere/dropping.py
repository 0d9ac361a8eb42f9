"""The rules whose premises drop formulas of the conclusion, over masks (see elsewhere/universe.py).

For each of them there are two functions. One gives the premises of a conclusion. The other one gets a conclusion and,
for each premise, a part of it that has a derivation; it gives a part of the conclusion, as small as it can be seen,
whose premises still have these parts. (The premises of "depth_right" and "two_right" have the excluded middles of the
variables that occur in the conclusion. A search uses such a formula only if it needs both of its sides, and each of
them only beside another formula with this variable; so this variable occurs in the part, too.)
"""

from elsewhere.universe import bits

KEEP_BOXES = ("S4", "S5", "Grz")
KEEP_INNER = ("K", "D", "T")


def _kept(calculus, left):
    boxed = left & calculus.boxes
    if calculus.logic in KEEP_BOXES:
        return boxed
    inner = 0
    for k in bits(boxed):
        inner = inner | calculus.parts[k][0]
    if calculus.logic in KEEP_INNER:
        return inner
    return inner | boxed


def _kept_from(calculus, left, kept):
    """The formulas of a left side that are needed to keep some formulas."""
    found = 0
    if calculus.logic not in KEEP_INNER:
        found = kept & left & calculus.boxes
    for k in bits(kept & ~found):
        found = found | calculus.box_around[k]
    return found


def _modal(calculus, main, left, right):
    inner = calculus.parts[main][0]
    if calculus.logic == "S5":
        inner = inner | (right & calculus.boxes)
    return [(_kept(calculus, left) | calculus.modal_extra[main], inner)]


def _modal_part(calculus, main, left, right, parts):
    used, others = parts[0]
    kept = _kept_from(calculus, left, used & ~calculus.modal_extra[main])
    return (kept, (others & ~calculus.parts[main][0]) | (1 << main))


def _serial(calculus, main, left, right):
    return [(_kept(calculus, left), 0)]


def _serial_part(calculus, main, left, right, parts):
    return (_kept_from(calculus, left, parts[0][0]), 0)


def _implies_right(calculus, main, left, right):
    a, b = calculus.parts[main]
    return [(left | a, b)]


def _implies_right_part(calculus, main, left, right, parts):
    return (parts[0][0] & ~calculus.parts[main][0], 1 << main)


def _linear_right(calculus, main, left, right):
    implications = right & calculus.implications
    premises = []
    for k in bits(implications):
        a, b = calculus.parts[k]
        premises.append((left | a, (implications & ~(1 << k)) | b))
    return premises


def _linear_right_part(calculus, main, left, right, parts):
    implications = right & calculus.implications
    needed = 0
    for k, (used, _) in zip(bits(implications), parts):
        needed = needed | (used & ~calculus.parts[k][0])
    return (needed, implications)


def _depth_right(calculus, main, left, right):
    a, b = calculus.parts[main]
    return [(left | a, right | b), (left | a | calculus.middles_of(left | right), b)]


def _depth_right_part(calculus, main, left, right, parts):
    a, b = calculus.parts[main]
    (used, others), (used_last, _) = parts
    needed = (used | (used_last & ~calculus.middles)) & ~a
    return (needed, (others & ~b) | (1 << main))


def _two_right(calculus, main, left, right):
    implications = right & calculus.implications
    premises = []
    for k in bits(implications):
        a, b = calculus.parts[k]
        premises.append((left | a, right | b))
    premises.append((left | calculus.middles_of(left | right), implications))
    return premises


def _two_right_part(calculus, main, left, right, parts):
    implications = right & calculus.implications
    used_last = parts[-1][0]
    needed = used_last & ~calculus.middles
    needed_right = implications
    for k, (used, others) in zip(bits(implications), parts[:-1]):
        a, b = calculus.parts[k]
        needed = needed | (used & ~a)
        needed_right = needed_right | (others & ~b)
    return (needed, needed_right)


PREMISES = {
    "modal": _modal,
    "serial": _serial,
    "implies_right": _implies_right,
    "linear_right": _linear_right,
    "depth_right": _depth_right,
    "two_right": _two_right,
}

PARTS = {
    "modal": _modal_part,
    "serial": _serial_part,
    "implies_right": _implies_right_part,
    "linear_right": _linear_right_part,
    "depth_right": _depth_right_part,
    "two_right": _two_right_part,
}
