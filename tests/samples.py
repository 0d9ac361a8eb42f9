"""Formulas and models for tests, built in a fixed order without chance."""

from elsewhere.formula import iff, subformulas
from elsewhere.frame import closed
from elsewhere.model import Model

P = ("var", "p")
Q = ("var", "q")
R = ("var", "r")
F = ("falsum",)
T = ("implies", F, F)


def land(a, b):
    return ("and", a, b)


def lor(a, b):
    return ("or", a, b)


def to(a, b):
    return ("implies", a, b)


def box(a):
    return ("box", a)


class Dice:
    """Numbers that look mixed and are the same in every run."""

    def __init__(self, seed):
        self.state = seed

    def below(self, bound):
        self.state = (self.state * 6364136223846793005 + 1442695040888963407) % 2 ** 64
        return (self.state >> 33) % bound


def mixed_formula(dice, depth, plain=False):
    """A formula of a height of at most `depth`."""
    kind = dice.below(6 if plain else 8)
    if depth == 1 or kind == 0:
        return (P, Q, R, F)[dice.below(4)]
    first = mixed_formula(dice, depth - 1, plain)
    if kind >= 6:
        return box(first)
    if kind == 5:
        return to(first, F)
    second = mixed_formula(dice, depth - 1, plain)
    return (("and", "or", "implies", "implies")[kind - 1], first, second)


def small_formulas(rounds):
    """Many different small formulas: all that are made of p, F in some rounds of the signs."""
    found = [P, F]
    for _ in range(rounds):
        more = [box(a) for a in found]
        more += [(sign, a, b) for sign in ("and", "or", "implies") for a in found for b in found]
        found = sorted(set(found + more))
    return found


def tower(step, levels, base=P):
    """The formula that is reached by some steps from the base."""
    a = base
    for _ in range(levels):
        a = step(a)
    return a


def doubled_tower(levels):
    """A formula with as few tuples as levels that stands for a great tree: each level holds the last one twice."""
    return tower(lambda a: iff(a, P), levels)


def frames(worlds):
    """All frames with a number of worlds."""
    places = [(v, w) for v in range(worlds) for w in range(worlds)]
    for k in range(2 ** len(places)):
        yield (worlds, tuple(pair for n, pair in enumerate(places) if k >> n & 1))


def order(*rows):
    """The frame in which each world sees itself and those of its row, and whatever follows by transitivity."""
    worlds = len(rows)
    return closed((worlds, tuple((v, w) for v, row in enumerate(rows) for w in row)), True, True)


def mixed_model(dice, worlds, names="pq"):
    """A model of K."""
    pairs = tuple((v, w) for v in range(worlds) for w in range(worlds) if dice.below(3) == 0)
    values = {name: [v for v in range(worlds) if dice.below(2)] for name in names}
    return Model((worlds, pairs), values)


def mixed_order(dice, worlds, names="pq"):
    """A model of Int."""
    rows = [[w for w in range(v + 1, worlds) if dice.below(3) == 0] for v in range(worlds)]
    frame = order(*rows)
    values = {}
    for name in names:
        bases = [v for v in range(worlds) if dice.below(4) == 0]
        values[name] = [w for v, w in frame[1] if v in bases]
    return Model(frame, values)


def chain(worlds, values=None):
    """The model in which each world sees the one behind it alone."""
    return Model((worlds, tuple((v, v + 1) for v in range(worlds - 1))), values or {})


def told(model):
    """What a model says of itself, to compare models."""
    worlds = model.frame()[0]
    return (model.frame(), model.true_worlds(), [model.seen(v) for v in range(worlds)])


def _upper_rows(dice, logic, worlds):
    """For each world of an order, some greater worlds that it sees, so that the closed frame is one of the logic."""
    rows = []
    for v in range(worlds):
        above = list(range(v + 1, worlds))
        if logic in ("Grz", "Int"):
            rows.append([w for w in above if dice.below(3) == 0])
        elif logic == "KC":
            rows.append([w for w in above if w == worlds - 1 or dice.below(3) == 0])
        elif logic == "LC":
            rows.append([above[dice.below(len(above))]] if above and dice.below(4) else [])
        elif logic == "BD2":
            rows.append([w for w in above if w >= worlds // 2 and dice.below(2)] if v < worlds // 2 else [])
        elif logic == "HT":
            tops = [w for w in above if w >= worlds // 2]
            rows.append([tops[dice.below(len(tops))]] if v < worlds // 2 and dice.below(4) else [])
        else:
            rows.append([])
    return rows


def mixed_frame_of(dice, logic, worlds):
    """A frame of one of the fifteen logics."""
    if logic in ("Grz", "Int", "KC", "LC", "BD2", "HT", "Cl"):
        return order(*_upper_rows(dice, logic, worlds))
    every = range(worlds)
    pairs = [(v, w) for v in every for w in every if dice.below(3) == 0]
    if logic == "GL":
        pairs = [(v, w) for v, w in pairs if v < w]
    if logic in ("D", "D4"):
        pairs += [(v, dice.below(worlds)) for v in every]
    if logic == "S5":
        pairs += [(w, v) for v, w in pairs]
    reflexive, transitive = logic in ("T", "S4", "S5"), logic not in ("K", "D", "T")
    return closed((worlds, tuple(sorted(set(pairs)))), reflexive, transitive)


def mixed_model_of(dice, logic, worlds, names="pq"):
    """A model of one of the fifteen logics."""
    frame = mixed_frame_of(dice, logic, worlds)
    values = {}
    for name in names:
        if logic in ("Int", "KC", "LC", "BD2", "HT", "Cl"):
            bases = [v for v in range(worlds) if dice.below(4) == 0]
            values[name] = [w for v, w in frame[1] if v in bases]
        else:
            values[name] = [v for v in range(worlds) if dice.below(2)]
    return Model(frame, values)


def formula_with(dice, many, plain=False):
    """A formula with a number of different subformulas, not less than 4."""
    while True:
        found = [("var", name) for name in "pqrs"[:1 + dice.below(3)]] + [F][:dice.below(2)]
        while len(found) < many:
            a = found[-1] if dice.below(3) else found[dice.below(len(found))]
            b = found[dice.below(len(found))]
            if dice.below(2):
                a, b = b, a
            kind = dice.below(4 if plain else 6)
            c = box(a) if kind > 3 else (("and", "or", "implies", "implies")[kind], a, b)
            if c not in found:
                found.append(c)
        if len(subformulas(found[-1])) == many:
            return found[-1]


def boxed_formula(dice, depth):
    """A formula with many boxes and few variables, of a height of at most `depth`."""
    kind = dice.below(9)
    if depth == 1 or kind == 0:
        return (P, Q, P, F)[dice.below(4)]
    if kind < 5:
        return box(boxed_formula(dice, depth - 1))
    if kind == 5:
        return to(boxed_formula(dice, depth - 1), F)
    return (("and", "or", "implies")[kind - 6], boxed_formula(dice, depth - 1), boxed_formula(dice, depth - 1))
