"""The model that refutes a sequent for which a search has found no derivation."""

from elsewhere.frame import closed
from elsewhere.model import Model
from elsewhere.universe import bits

REFLEXIVE = ("T", "S4", "S5", "Grz", "Int", "KC", "LC", "BD2", "HT", "Cl")
NOT_TRANSITIVE = ("K", "D", "T")


def _standing(node):
    """The node that stands for the world which refutes a node."""
    while node.same is not None:
        node = node.same
    return node


def countermodel(calculus, root):
    """The model of all worlds that are reached from a refuted node, whose own world is 0."""
    worlds = [_standing(root)]
    places = {(worlds[0].left, worlds[0].right): 0}
    pairs = []
    done = 0
    while done < len(worlds):
        here = worlds[done]
        for node in here.above:
            other = _standing(node)
            key = (other.left, other.right)
            if key not in places:
                places[key] = len(worlds)
                worlds.append(other)
            pairs.append((done, places[key]))
        done += 1
    return _model_of(calculus, worlds, pairs)


def _model_of(calculus, worlds, pairs):
    numbers = list(range(len(worlds)))
    logic = calculus.logic
    if logic == "S5":
        pairs = [(v, w) for v in numbers for w in numbers]
    if logic == "KC":
        # The same variables are true at all ends, because each of them is decided below: so one end is enough.
        numbers = _with_one_end(worlds)
        pairs = [(numbers[v], numbers[w]) for v, w in pairs]
    frame = (max(numbers) + 1, tuple(sorted(set(pairs))))
    return Model(closed(frame, logic in REFLEXIVE, logic not in NOT_TRANSITIVE), _values(calculus, worlds, numbers))


def _with_one_end(worlds):
    """New numbers of the worlds, in which all those that see no others have the same one."""
    inner = [v for v, node in enumerate(worlds) if node.above]
    places = {v: k for k, v in enumerate(inner)}
    return [places.get(v, len(inner)) for v in range(len(worlds))]


def _values(calculus, worlds, numbers):
    values = {}
    for k in bits(calculus.universe.signed["var"]):
        true = [numbers[v] for v, node in enumerate(worlds) if (node.left >> k) & 1]
        values[calculus.universe.formulas[k][1]] = true
    return values
