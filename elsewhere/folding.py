"""Values of formulas from the values of their parts.

A formula may hold the same tuple in many places: `a <-> b` has `a` and `b` twice, so that a formula of a
height of 60 can stand for more than a thousand million parts. Therefore nothing here walks along the branches of
a formula; it goes from level to level, and keeps each different formula of a level once.
"""


def parts_of(a):
    """The formulas of which a formula is made directly, from left to right."""
    if a[0] == "var":
        return ()
    return a[1:]


def distinct(rows):
    """The ascending list of the different items of a list."""
    found = []
    for row in sorted(rows):
        if not found or row != found[-1]:
            found.append(row)
    return found


def levels_of(a):
    """The levels of a formula, each an ascending list: the formula alone, its parts, the parts of these, and so on."""
    return levels_from([a])


def levels_from(formulas):
    """The levels of some formulas: the different ones of them, their parts, the parts of these, and so on."""
    levels = []
    level = distinct(formulas)
    while level:
        levels.append(level)
        level = distinct([part for b in level for part in parts_of(b)])
    return levels


def place_of(rows, row):
    """The index of an item in an ascending list that contains it."""
    low = 0
    high = len(rows) - 1
    while low < high:
        middle = (low + high) // 2
        if rows[middle] < row:
            low = middle + 1
        else:
            high = middle
    return low


def contains(rows, row):
    """Whether an ascending list or tuple has an item."""
    return len(rows) > 0 and rows[place_of(rows, row)] == row


def folded(a, value_of):
    """The value of a formula, where `value_of(b, values)` is the value of `b` if its parts have these values.

    It is asked once for each different subformula, whose parts it has been asked for before.
    """
    # Formulas grow too deep for the keys of a dict: there they go by their sign and the numbers of their parts.
    numbers = {}
    values = []
    below = []
    numbers_below = []
    for level in reversed(levels_of(a)):
        numbers_here = []
        for b in level:
            parts = [numbers_below[place_of(below, part)] for part in parts_of(b)]
            key = b if b[0] == "var" else (b[0], *parts)
            if key not in numbers:
                numbers[key] = len(values)
                values.append(value_of(b, [values[k] for k in parts]))
            numbers_here.append(numbers[key])
        below = level
        numbers_below = numbers_here
    return values[numbers_below[0]]
