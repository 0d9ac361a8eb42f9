"""Provability logic: ranks, normal forms of formulas without variables, and fixed points."""

from elsewhere.errors import HasVariables, NotGuarded, TooMany
from elsewhere.fixing import Fixing, outer_boxes
from elsewhere.folding import folded
from elsewhere.formula import FALSUM, disjunction, is_guarded, modal_depth, neg, variables

MOST_BOXES = 2


def true_at_rank(a, rank):
    """Whether a formula without variables is true at worlds with a rank."""
    answers = rank_list(a)
    return answers[min(rank, len(answers) - 1)]


def rank_list(a):
    """The list of the answers for the ranks up to the modal depth of a formula without variables."""
    if variables(a):
        raise HasVariables("truth does not depend on ranks alone")
    many = modal_depth(a) + 1

    def value_of(b, parts):
        if b[0] == "falsum":
            return [False] * many
        if b[0] == "box":
            return _below(parts[0])
        left, right = parts
        if b[0] == "and":
            return [x and y for x, y in zip(left, right)]
        if b[0] == "or":
            return [x or y for x, y in zip(left, right)]
        return [y or not x for x, y in zip(left, right)]

    return list(folded(a, value_of))


def _below(answers):
    """For each rank, whether the answers for all lower ranks are True."""
    found = []
    so_far = True
    for answer in answers:
        found.append(so_far)
        so_far = so_far and answer
    return found


def box_power(n):
    """The formula `falsum` behind a number of boxes."""
    a = FALSUM
    for _ in range(n):
        a = ("box", a)
    return a


def of_ranks(answers):
    """A formula that is true at those ranks for which a list says so; its last item stands for all greater ranks."""
    return disjunction([_between(first, end) for first, end in _runs(answers)])


def _runs(answers):
    """The pairs of the first rank of each run of True and of the rank behind it, or None if the run does not end."""
    runs = []
    first = None
    for rank, answer in enumerate(answers):
        if answer and first is None:
            first = rank
        if not answer and first is not None:
            runs.append((first, rank))
            first = None
    if first is not None:
        runs.append((first, None))
    return runs


def _between(first, end):
    """A formula that is true at the ranks from the first one on and below the end."""
    if end is None:
        return neg(box_power(first))
    return box_power(end) if first == 0 else ("and", neg(box_power(first)), box_power(end))


def normal_form(a):
    """A formula made of powers of boxes that is equivalent in GL to a formula without variables."""
    return of_ranks(rank_list(a))


def fixed_point(a, name):
    """A fixed point of a formula, in which a variable is guarded, and the derivation in GL of its equation."""
    if not is_guarded(a, name):
        raise NotGuarded("the variable stands outside of every box")
    if len(outer_boxes(a, name)) > MOST_BOXES:
        raise TooMany("too many outermost boxes contain the variable")
    fixing = Fixing(name)
    equation = fixing.fixed_point(a)
    step = fixing.equations.as_iff((), equation)
    return (fixing.equations.formula(equation.first), fixing.builder.derivation(step, fixing.builder.conclusion(step)))
