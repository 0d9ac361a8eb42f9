"""The fifteen logics and the conditions on their frames."""

from elsewhere.errors import UnknownLogic
from elsewhere.frame import rows_of
from elsewhere.model import forcing, truth

MODAL = ("K", "D", "T", "K4", "D4", "S4", "S5", "GL", "Grz")
INTERMEDIATE = ("Int", "KC", "LC", "BD2", "HT", "Cl")


def _serial(frame):
    worlds, pairs = frame
    return len({v for v, _ in pairs}) == worlds


def _reflexive(frame):
    worlds, pairs = frame
    return len([v for v, w in pairs if v == w]) == worlds


def _irreflexive(frame):
    return all([v != w for v, w in frame[1]])


def _transitive(frame):
    rows = rows_of(frame)
    known = set(frame[1])
    for u, v in frame[1]:
        for w in rows.get(v, []):
            if (u, w) not in known:
                return False
    return True


def _symmetric(frame):
    known = set(frame[1])
    for v, w in frame[1]:
        if (w, v) not in known:
            return False
    return True


def _antisymmetric(frame):
    known = set(frame[1])
    for v, w in frame[1]:
        if v != w and (w, v) in known:
            return False
    return True


def _directed(frame):
    # Asked of frames of Grz only: there each world sees an end, a world that sees itself alone. Two ends see no
    # world together, and what sees the same single end sees a world together.
    rows = rows_of(frame)
    for row in rows.values():
        if len([v for v in row if rows[v] == [v]]) > 1:
            return False
    return True


def _linear(frame):
    known = set(frame[1])
    for row in rows_of(frame).values():
        for v in row:
            for w in row:
                if (v, w) not in known and (w, v) not in known:
                    return False
    return True


def _shallow(frame):
    rows = rows_of(frame)
    for u, v in frame[1]:
        if u != v and len([w for w in rows.get(v, []) if w not in (u, v)]) > 0:
            return False
    return True


def _flat(frame):
    return all([v == w for v, w in frame[1]])


CONDITIONS = {
    "K": (),
    "D": (_serial,),
    "T": (_reflexive,),
    "K4": (_transitive,),
    "D4": (_transitive, _serial),
    "S4": (_transitive, _reflexive),
    "S5": (_transitive, _reflexive, _symmetric),
    "GL": (_transitive, _irreflexive),
    "Grz": (_transitive, _reflexive, _antisymmetric),
    "Int": (_transitive, _reflexive, _antisymmetric),
    "KC": (_transitive, _reflexive, _antisymmetric, _directed),
    "LC": (_transitive, _reflexive, _antisymmetric, _linear),
    "BD2": (_transitive, _reflexive, _antisymmetric, _shallow),
    "HT": (_transitive, _reflexive, _antisymmetric, _linear, _shallow),
    "Cl": (_transitive, _reflexive, _antisymmetric, _flat),
}


def check_logic(logic):
    """Raises UnknownLogic if a name is none of the fifteen."""
    if logic not in CONDITIONS:
        raise UnknownLogic("there is no such logic")


def is_frame_of(logic, frame):
    """Whether a frame fulfils the condition of a logic."""
    check_logic(logic)
    for condition in CONDITIONS[logic]:
        if not condition(frame):
            return False
    return True


def is_model_of(logic, model):
    """Whether a model is one of a logic."""
    if not is_frame_of(logic, model.frame()):
        return False
    return logic in MODAL or _stays_true(model)


def _stays_true(model):
    """Whether each variable that is true at a world is true at all worlds that it sees."""
    return all([_is_upward(model, places) for places in model.true_worlds().values()])


def _is_upward(model, places):
    kept = set(places)
    for v in places:
        for w in model.seen(v):
            if w not in kept:
                return False
    return True


def holds(logic, model, a):
    """The ascending list of the worlds at which a formula holds in the sense of a logic."""
    check_logic(logic)
    if logic in MODAL:
        return truth(model, a)
    return forcing(model, a)
