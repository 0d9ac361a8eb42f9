"""Models, truth and forcing."""

from elsewhere.errors import InvalidModel, NotPlain
from elsewhere.folding import folded
from elsewhere.formula import is_plain
from elsewhere.frame import is_frame, reached, rows_of


class Model:
    """A frame and, for each name of a variable, the worlds at which it is true."""

    def __init__(self, frame, values):
        if not is_frame(frame):
            raise InvalidModel("the frame is none")
        for name in values:
            for v in values[name]:
                if not 0 <= v < frame[0]:
                    raise InvalidModel(f"there is no world {v}")
        self._frame = frame
        self._rows = rows_of(frame)
        self._true = {name: sorted(set(values[name])) for name in sorted(values) if values[name]}

    def frame(self):
        """The frame."""
        return self._frame

    def true_worlds(self):
        """A new dict from each name that is true somewhere to the ascending list of its worlds."""
        return {name: list(worlds) for name, worlds in self._true.items()}

    def seen(self, v):
        """The ascending list of the worlds that a world sees."""
        return list(self._rows.get(v, []))


def truth(model, a):
    """The ascending list of the worlds at which a formula is true."""
    return _worlds_of(model, a, False)


def forcing(model, a):
    """The ascending list of the worlds at which a plain formula is forced."""
    if not is_plain(a):
        raise NotPlain("a box is not forced")
    return _worlds_of(model, a, True)


def _worlds_of(model, a, forced):
    """The worlds at which a formula is true, or, if `forced` is True, those at which it is forced.

    The value of a subformula is the list that tells for each world whether it holds there.
    """
    worlds, _ = model.frame()
    rows = [model.seen(v) for v in range(worlds)]
    true = model.true_worlds()

    def value_of(b, parts):
        if b[0] == "var":
            return _marks(worlds, true.get(b[1], []))
        if b[0] == "falsum":
            return [False] * worlds
        if b[0] == "box":
            return _everywhere(rows, parts[0])
        left, right = parts
        if b[0] == "and":
            return [x and y for x, y in zip(left, right)]
        if b[0] == "or":
            return [x or y for x, y in zip(left, right)]
        here = [y or not x for x, y in zip(left, right)]
        return _everywhere(rows, here) if forced else here

    return [v for v, marked in enumerate(folded(a, value_of)) if marked]


def _marks(worlds, places):
    marks = [False] * worlds
    for v in places:
        marks[v] = True
    return marks


def _everywhere(rows, marks):
    """For each world, whether all worlds that it sees are marked."""
    return [all([marks[w] for w in row]) for row in rows]


def generated(model, v):
    """The model of a world, which becomes 0, and of all worlds that can be reached from it."""
    rows = rows_of(model.frame())
    kept = [v] + [w for w in reached(rows, v) if w != v]
    places = {w: k for k, w in enumerate(kept)}
    pairs = [(places[u], places[w]) for u in kept for w in rows.get(u, [])]
    true = model.true_worlds()
    values = {name: [places[w] for w in true[name] if w in places] for name in true}
    return Model((len(kept), tuple(sorted(pairs))), values)


def disjoint(first, second):
    """The model with the worlds of two models, those of the first one ahead."""
    worlds, pairs = first.frame()
    more, others = second.frame()
    values = first.true_worlds()
    for name, places in second.true_worlds().items():
        values[name] = values.get(name, []) + [w + worlds for w in places]
    moved = [(v + worlds, w + worlds) for v, w in others]
    return Model((worlds + more, (*pairs, *moved)), values)
