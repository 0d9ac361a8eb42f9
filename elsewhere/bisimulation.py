"""Bisimulations: which worlds formulas can tell apart, and by which formulas."""

from elsewhere.errors import NotTold
from elsewhere.formula import disjunction, neg
from elsewhere.model import Model, disjoint


def _rounds(model):
    """For each round, from 0 on, the list of the numbers of the classes of all worlds.

    Two worlds are in the same class as long as they are not told apart. Classes are numbered by their least
    members, so that equal lists mean equal classes; after the last round nothing more is told apart.
    """
    worlds, _ = model.frame()
    rows = [model.seen(v) for v in range(worlds)]
    rounds = [_numbered(_names_at(model))]
    while True:
        last = rounds[-1]
        finer = _numbered([(last[v], tuple(sorted({last[w] for w in rows[v]}))) for v in range(worlds)])
        if finer == last:
            return rounds
        rounds.append(finer)


def _names_at(model):
    """The list that tells for each world the tuple of the names that are true at it."""
    worlds, _ = model.frame()
    names = [()] * worlds
    for name, places in model.true_worlds().items():
        for v in places:
            names[v] = (*names[v], name)
    return names


def _numbered(keys):
    numbers = {}
    for key in keys:
        if key not in numbers:
            numbers[key] = len(numbers)
    return [numbers[key] for key in keys]


def greatest_bisimulation(first, second):
    """The ascending list of the pairs of the greatest bisimulation between two models."""
    worlds, _ = first.frame()
    classes = class_of(disjoint(first, second))
    partners = {}
    for w, number in enumerate(classes[worlds:]):
        partners.setdefault(number, []).append(w)
    return [(v, w) for v in range(worlds) for w in partners.get(classes[v], [])]


def class_of(model):
    """The list that tells for each world the number of the set that it belongs to."""
    return _rounds(model)[-1]


def smallest(model):
    """The model in which all worlds that cannot be told apart are made one."""
    classes = class_of(model)
    pairs = sorted({(classes[v], classes[w]) for v, w in model.frame()[1]})
    true = model.true_worlds()
    values = {name: [classes[v] for v in true[name]] for name in true}
    return Model((max(classes) + 1, tuple(pairs)), values)


def round_of(first, v, second, w):
    """The round at which two worlds are told apart, or -1."""
    worlds, _ = first.frame()
    return _first_round(_rounds(disjoint(first, second)), v, worlds + w)


def _first_round(rounds, v, w):
    for k, classes in enumerate(rounds):
        if classes[v] != classes[w]:
            return k
    return -1


def telling(first, v, second, w):
    """A formula that is true at the one and false at the other world, of the least modal depth."""
    worlds, _ = first.frame()
    both = disjoint(first, second)
    rounds = _rounds(both)
    goal = (v, worlds + w)
    if _first_round(rounds, v, worlds + w) < 0:
        raise NotTold("no formula tells the worlds apart")
    needed = _needed(both, rounds, goal)
    formulas = {}
    # A formula is made of those of pairs that are told apart at earlier rounds, so these come first.
    for pair in sorted(needed, key=lambda told: _first_round(rounds, told[0], told[1])):
        turned, others = needed[pair]
        if others is None:
            formulas[pair] = _at_once(both, pair)
        else:
            a = ("box", disjunction([formulas[other] for other in others]))
            formulas[pair] = neg(a) if turned else a
    return formulas[goal]


def _needed(model, rounds, goal):
    """The dict from each pair whose formula is needed to what it is made of (see `_plan`)."""
    needed = {}
    waiting = [goal]
    while waiting:
        pair = waiting.pop()
        if pair not in needed:
            needed[pair] = _plan(model, rounds, pair)
            waiting.extend(needed[pair][1] or [])
    return needed


def _plan(model, rounds, pair):
    """How to tell a pair apart: a tuple of whether to negate, and the list of the pairs from which a box is made.

    If the second world sees one that is told apart from all that the first one sees, the box is true at the first
    world. Otherwise it is the other way round, and the box is negated. The list is None if variables are enough.
    """
    v, w = pair
    last = _first_round(rounds, v, w) - 1
    if last < 0:
        return (False, None)
    others = _box_pairs(model, rounds[last], v, w)
    if others is not None:
        return (False, others)
    return (True, _box_pairs(model, rounds[last], w, v))


def _box_pairs(model, classes, v, w):
    """The pairs of each class that is seen from `v` and one world that `w` sees and that is in none of them."""
    seen = {}
    for x in model.seen(v):
        seen.setdefault(classes[x], x)
    for y in model.seen(w):
        if classes[y] not in seen:
            return [(x, y) for x in seen.values()]
    return None


def _at_once(model, pair):
    """A variable, or the negation of one, that is true at the first and false at the second world."""
    names = _names_at(model)
    first, second = names[pair[0]], names[pair[1]]
    for name in first:
        if name not in second:
            return ("var", name)
    others = [name for name in second if name not in first]
    return neg(("var", others[0]))
