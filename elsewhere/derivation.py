"""Derivations: lists of steps, each of which follows from earlier ones by a rule."""

from elsewhere.errors import NoFit
from elsewhere.folding import contains, distinct, place_of
from elsewhere.formula import is_plain, subformulas_of
from elsewhere.logics import INTERMEDIATE, check_logic
from elsewhere.rules import premises_of
from elsewhere.sequent import added, is_within


def is_derivation(logic, steps):
    """Whether a list of steps is a derivation in a logic."""
    return first_wrong(logic, steps) < 0 and len(steps) > 0


def first_wrong(logic, steps):
    """The index of the first step that is not right, or -1."""
    check_logic(logic)
    known = []
    for k, (rule, conclusion, main, numbers) in enumerate(steps):
        if not all([0 <= number < k for number in numbers]):
            return k
        if logic in INTERMEDIATE and not _all_plain(conclusion, known):
            return k
        given = [steps[number][1] for number in numbers]
        if not _follows(logic, rule, conclusion, main, given):
            return k
    return -1


def _all_plain(conclusion, known):
    """Whether all formulas of a sequent are plain; those that were found to be so are put into an ascending list."""
    for side in conclusion:
        for a in side:
            if not contains(known, a):
                if not is_plain(a):
                    return False
                _put_in(known, a)
    return True


def _put_in(rows, row):
    place = place_of(rows, row) if rows else 0
    if place < len(rows) and rows[place] < row:
        place += 1
    rows.insert(place, row)


def _follows(logic, rule, conclusion, main, given):
    """Whether a conclusion follows by a rule from the sequents that are given."""
    if rule == "weaken":
        return main is None and len(given) == 1 and is_within(given[0], conclusion)
    try:
        return premises_of(logic, rule, conclusion, main) == given
    except NoFit:
        return False


def conclusion_of(steps):
    """The conclusion of the last step."""
    return steps[-1][1]


def derives(logic, steps, wanted):
    """Whether a list of steps is a derivation of a sequent in a logic."""
    return is_derivation(logic, steps) and conclusion_of(steps) == wanted


def pruned(steps):
    """The derivation without the steps that are not used for the last one."""
    used = [False] * len(steps)
    used[-1] = True
    for k in range(len(steps) - 1, -1, -1):
        if used[k]:
            for number in steps[k][3]:
                used[number] = True
    places = {}
    kept = []
    for k, step in enumerate(steps):
        if used[k]:
            places[k] = len(kept)
            kept.append(_renumbered(step, [places[number] for number in step[3]]))
    return kept


def _renumbered(step, numbers):
    rule, conclusion, main, _ = step
    return (rule, conclusion, main, tuple(numbers))


def joined(first, second, main):
    """The derivation that joins two derivations by a cut."""
    left, with_main = conclusion_of(first)
    left_with_main, right = conclusion_of(second)
    if contains(left, main) or contains(right, main):
        raise NoFit("the formula that is cut is in the sequent")
    if with_main != added(right, [main]) or left_with_main != added(left, [main]):
        raise NoFit("the two conclusions do not belong together")
    moved = [_renumbered(step, [number + len(first) for number in step[3]]) for step in second]
    last = ("cut", (left, right), main, (len(first) - 1, len(first) + len(second) - 1))
    return [*first, *moved, last]


def count_rule(steps, rule):
    """The number of steps with a rule."""
    return len([step for step in steps if step[0] == rule])


def is_analytic(steps):
    """Whether every formula of a derivation is a subformula of one in its last conclusion."""
    goal = conclusion_of(steps)
    known = subformulas_of([*goal[0], *goal[1]])
    found = distinct([a for step in steps for side in step[1] for a in side])
    return all([contains(known, a) for a in found])
