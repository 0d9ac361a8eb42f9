"""Sequents: pairs of two ascending tuples of formulas, those on the left and those on the right."""

from elsewhere.folding import contains, distinct


def sequent(left, right):
    """The sequent of the formulas of two lists."""
    return (tuple(distinct(left)), tuple(distinct(right)))


def is_sequent(value):
    """Whether both tuples of a pair of tuples of formulas ascend."""
    left, right = value
    return _ascends(left) and _ascends(right)


def _ascends(side):
    return all([side[k - 1] < side[k] for k in range(1, len(side))])


def added(side, formulas):
    """The side of a sequent with some formulas added."""
    return tuple(distinct([*side, *formulas]))


def is_within(small, great):
    """Whether all formulas of a sequent are on the same sides of another one."""
    return _is_part(small[0], great[0]) and _is_part(small[1], great[1])


def _is_part(side, other):
    return len(side) <= len(other) and all([contains(other, a) for a in side])
