"""Reduction of terms: redexes, single steps, and normal terms."""

from elsewhere.branches import Branches, with_part
from elsewhere.errors import IsNormal
from elsewhere.machine import evaluated
from elsewhere.terms import put

# For each sign of a redex the signs of its first part.
HEADS = {"call": ("fun",), "first": ("pair",), "second": ("pair",), "case": ("left", "right")}


def _is_redex(term):
    return term[0] in HEADS and term[1][0] in HEADS[term[0]]


def _counts(branches):
    """The list of the numbers of the redexes in all nodes."""
    return branches.all_values(lambda term, depth, parts: sum(parts) + 1 if _is_redex(term) else sum(parts))


def redexes(term):
    """The number of the redexes in a term."""
    return _counts(Branches(term))[0]


def step(term):
    """The term in which the first redex has been contracted."""
    branches = Branches(term)
    counts = _counts(branches)
    if counts[0] == 0:
        raise IsNormal("there is no redex")
    around = []
    node = 0
    while not _is_redex(term):
        links = branches.links[node]
        k = [place for place, part in enumerate(links) if counts[part] > 0][0]
        around.append((term, k))
        node = links[k]
        _, term = branches.nodes[node]
    found = _contracted(term)
    for outer, k in reversed(around):
        found = with_part(outer, k, found)
    return found


def _contracted(redex):
    head = redex[1]
    if redex[0] == "call":
        return put(head[2], redex[2])
    if redex[0] == "case":
        return put(redex[2 if head[0] == "left" else 3], head[1])
    return head[1 if redex[0] == "first" else 2]


def normal(term):
    """The normal term that is reached by contracting redexes as long as there are any."""
    return evaluated(term)
