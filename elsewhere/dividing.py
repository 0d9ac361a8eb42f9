"""The sequents of a derivation, divided into what comes from one side of its last sequent and what from the other.

A division of a sequent is a pair of sequents, its first and its second part, to which each formula of the sequent
belongs on the same side; it may belong to both. A step may be needed with several divisions.
"""

from elsewhere.folding import contains, place_of
from elsewhere.rules import kept, premises_of
from elsewhere.sequent import sequent


def part_of_main(step, division):
    """The index of the part to which the main formula of a step belongs, 0 or 1; the second one if both do."""
    rule, _, main, _ = step
    side = 0 if rule.endswith("_left") or rule == "reflexive" else 1
    return 1 if contains(division[1][side], main) else 0


def premise_divisions(logic, step, division, premises):
    """The list of the divisions of the premises of a step, which are given in order."""
    rule, _, main, _ = step
    if rule == "weaken":
        return [tuple([_common(part, premises[0]) for part in division])]
    if rule == "serial":
        return [tuple([_beyond(logic, part) for part in division])]
    if rule in ("axiom", "falsum"):
        return []
    place = part_of_main(step, division)
    other = division[1 - place]
    if rule == "modal":
        other = _beyond(logic, other)
    mine = premises_of(logic, rule, division[place], main)
    return [(part, other) if place == 0 else (other, part) for part in mine]


def _common(part, whole):
    """The formulas of a part that are in a sequent."""
    left, right = whole
    return (tuple([a for a in part[0] if contains(left, a)]), tuple([a for a in part[1] if contains(right, a)]))


def _beyond(logic, part):
    """What "modal" and "serial" keep of a part without the main formula."""
    return sequent(kept(logic, part[0]), [])


def divisions(logic, steps, last):
    """For each step, the dict from keys to the divisions with which it is needed for a division of the last one."""
    tables = [{} for _ in steps]
    tables[-1][division_key(steps[-1][1], last)] = last
    for k in range(len(steps) - 1, -1, -1):
        numbers = steps[k][3]
        premises = [steps[number][1] for number in numbers]
        for division in list(tables[k].values()):
            parts = premise_divisions(logic, steps[k], division, premises)
            for number, premise, part in zip(numbers, premises, parts):
                tables[number][division_key(premise, part)] = part
    return tables


def division_key(whole, division):
    """A tuple of integers that tells a division of a sequent from all others."""
    return tuple([_mask(whole[side], part[side]) for part in division for side in (0, 1)])


def _mask(side, formulas):
    return sum([1 << place_of(side, a) for a in formulas])
