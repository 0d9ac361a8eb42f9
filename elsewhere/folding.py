"""Values of formulas from the values of their parts.

A formula may hold the same tuple in many places: `a <-> b` has `a` and `b` twice, so that a formula of a
height of 60 can stand for more than a thousand million parts. Therefore nothing here walks along the branches of
a formula; it goes from level to level, and keeps each different formula of a level once.
"""


def parts_of(a):
    """The formulas of which a formula is made directly, from left to right."""
    if a[0] == "var":
        return ()
    return a[1:]


def distinct(rows):
    """The ascending list of the different items of a list."""
    found = []
    for row in sorted(rows):
        if not found or row != found[-1]:
            found.append(row)
    return found


def levels_of(a):
    """The list of the levels of a formula: the formula alone, its parts, the parts of these, and so on."""
    levels = []
    level = [a]
    while level:
        levels.append(level)
        level = distinct([part for b in level for part in parts_of(b)])
    return levels


def members_of(levels):
    """The ascending list of all formulas in a list of levels."""
    return distinct([b for level in levels for b in level])


def place_of(rows, row):
    """The index of an item in an ascending list that contains it."""
    low = 0
    high = len(rows) - 1
    while low < high:
        middle = (low + high) // 2
        if rows[middle] < row:
            low = middle + 1
        else:
            high = middle
    return low


def folded(a, value_of):
    """The value of a formula, where `value_of(b, values)` is the value of `b` if its parts have these values.

    It is asked once for each different subformula, whose parts it has been asked for before.
    """
    levels = levels_of(a)
    # Formulas grow too deep for the keys of a dict, so each one goes by its place in this list.
    members = members_of(levels)
    values = {}
    for level in reversed(levels):
        for b in level:
            place = place_of(members, b)
            if place not in values:
                values[place] = value_of(b, [values[place_of(members, part)] for part in parts_of(b)])
    return values[place_of(members, a)]
