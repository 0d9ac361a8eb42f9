"""What has to be asked about a sequent to see whether it has a derivation (point 6.4 of the document)."""

from elsewhere.calculus import ALONE, NO_MAIN
from elsewhere.universe import bits

# What a premise without a derivation tells: its world refutes the conclusion, too; or a new world that sees its world
# does; or the other questions have to be asked, and a new world sees all their worlds if none has a derivation.
SAME = 0
ABOVE = 1
NEXT = 2

SKIPPING = ("T", "S4", "S5", "Grz")


class Ask:
    """The question whether a premise of a rule, as it is used for some conclusion, has a derivation.

    `last` is True for the last premise of a use. In "linear_right" and "two_right" a premise may belong to an
    implication, `own`: it need not be asked for if the others have derivations without this implication.
    """

    def __init__(self, use, premise, otherwise, last):
        self.rule, self.main, self.whole = use
        self.left, self.right = premise
        self.otherwise = otherwise
        self.last = last
        self.own = 0


def _asks(calculus, rule, main, whole, otherwise):
    """The questions for all premises of a rule for a conclusion."""
    premises = calculus.premises(rule, main, whole[0], whole[1])
    end = len(premises) - 1
    return [Ask((rule, main, whole), premise, otherwise, k == end) for k, premise in enumerate(premises)]


def saturating_asks(calculus, left, right):
    """The questions for a rule that adds something in each of its premises; none if the sequent is saturated."""
    found = _adding_rule(calculus, left, right)
    if found is None:
        found = _deciding_rule(calculus, left, right)
    if found is None:
        return []
    rule, main = found
    return _asks(calculus, rule, main, (left, right), SAME)


def _adding_rule(calculus, left, right):
    """A rule and its main formula, one that does not branch, or else one with a closed premise, or else any one."""
    best = None
    best_rank = 3
    for k, (rule, adds) in _candidates(calculus, left, right):
        rank = _rank(calculus, left, right, adds)
        if rule == "cut":
            # The premise with this formula on the left is closed: so is its implication on the right.
            rank = min(rank, 1) if rank < 3 else 3
        if rank < best_rank:
            best = (rule, k)
            best_rank = rank
        if rank == 0:
            return best
    return best


def _candidates(calculus, left, right):
    on_left = [(k, calculus.on_left[k]) for k in bits(left) if calculus.on_left[k] is not None]
    on_right = [(k, calculus.on_right[k]) for k in bits(right) if calculus.on_right[k] is not None]
    found = on_left + on_right
    if calculus.logic in ALONE:
        for k in bits(right & calculus.implications):
            a, b = calculus.parts[k]
            if a & left:
                main = bits(b)[0]
                found.append((main, ("cut", calculus.adds("cut", main))))
    return found


def _rank(calculus, left, right, adds):
    """0 for one premise, 1 if one of two is closed, 2 for other two, and 3 if some premise adds nothing."""
    closed = 0
    for more, other in adds:
        if not (more & ~left) and not (other & ~right):
            return 3
        if (more & right) or (other & left) or (more & calculus.falsum):
            closed = 1
    return 0 if len(adds) == 1 else 2 - closed


def _deciding_rule(calculus, left, right):
    """The rules that are not led by a formula of the sequent: for a box in S5, and for a variable in KC."""
    if calculus.logic == "S5":
        undecided = bits(calculus.boxes & ~(left | right))
        return ("cut", undecided[0]) if undecided else None
    for middle in calculus.weak_middles:
        whole, first, second = [calculus.universe.mask([a]) for a in (middle, middle[1], middle[2])]
        if not (left & (whole | first | second)):
            return ("weak_middle", bits(whole)[0])
    return None


def branching_asks(calculus, left, right):
    """The questions about a saturated sequent; none if a world that sees no others refutes it."""
    logic = calculus.logic
    if logic in ("Int", "KC"):
        return _implication_asks(calculus, left, right)
    if logic == "LC":
        return _linear_asks(calculus, left, right)
    if logic == "BD2":
        return _depth_asks(calculus, left, right)
    if logic == "HT":
        return _two_asks(calculus, left, right)
    # In Cl there are no boxes, and so nothing is left to be asked.
    return _modal_asks(calculus, left, right)


def _modal_asks(calculus, left, right):
    asks = []
    for k in bits(right & calculus.boxes):
        # Where each world sees itself, a box needs no other world if its inner formula is refuted here.
        if calculus.logic not in SKIPPING or not (calculus.parts[k][0] & right):
            asks = asks + _asks(calculus, "modal", k, (left, right), NEXT)
    if calculus.logic in ("D", "D4") and not asks:
        return _asks(calculus, "serial", NO_MAIN, (left, right), NEXT)
    return asks


def waiting(calculus, left, right):
    """The mask of the implications on the right that are not refuted by the world of the saturated sequent itself."""
    found = 0
    for k in bits(right & calculus.implications):
        if not (calculus.parts[k][0] & left):
            found = found | (1 << k)
    return found


def _implication_asks(calculus, left, right):
    asks = []
    for k in bits(waiting(calculus, left, right)):
        asks = asks + _asks(calculus, "implies_right", k, (left, right), NEXT)
    return asks


def _linear_asks(calculus, left, right):
    implications = waiting(calculus, left, right)
    asks = _asks(calculus, "linear_right", NO_MAIN, (left, implications), ABOVE)
    return _with_owners(asks, implications)


def _with_owners(asks, implications):
    for k, ask in zip(bits(implications), asks):
        ask.own = 1 << k
    return asks


def _depth_asks(calculus, left, right):
    asks = []
    for k in bits(waiting(calculus, left, right)):
        here, above = _asks(calculus, "depth_right", k, (left, right), NEXT)
        here.otherwise = SAME
        asks = asks + [here, above]
    return asks


def _two_asks(calculus, left, right):
    implications = waiting(calculus, left, right)
    if not implications:
        return []
    # The implications that are refuted here anyway are weakened away: else a premise would be the conclusion itself.
    whole = (left, (right & ~calculus.implications) | implications)
    asks = _with_owners(_asks(calculus, "two_right", NO_MAIN, whole, SAME), implications)
    above = asks.pop()
    above.otherwise = ABOVE
    # The last premise is asked for first: it is answered fast, and tells which implications matter.
    return [above, *asks]
