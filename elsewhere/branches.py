"""Terms as nodes: values of terms from the values of their parts.

A term may be deeper than calls may be nested, so nothing here calls itself. It may also hold the same tuple in many
places, so that it stands for more terms than can be counted one by one: where very many terms lie equally deep, each
different one is kept once.
"""

from elsewhere.folding import distinct, place_of

# For each kind of term the places of its parts in the tuple, each with the number of assumptions that it binds there.
PLACES = {
    "at": (),
    "fun": ((2, 1),),
    "call": ((1, 0), (2, 0)),
    "pair": ((1, 0), (2, 0)),
    "first": ((1, 0),),
    "second": ((1, 0),),
    "left": ((1, 0),),
    "right": ((1, 0),),
    "case": ((1, 0), (2, 1), (3, 1)),
    "absurd": ((1, 0),),
}

MANY = 5000


def with_parts(term, parts):
    """The term with other parts."""
    items = list(term)
    for (place, _), part in zip(PLACES[term[0]], parts):
        items[place] = part
    return tuple(items)


def with_part(term, k, part):
    """The term with another part in place of part number `k`."""
    place = PLACES[term[0]][k][0]
    return (*term[:place], part, *term[place + 1:])


class Branches:
    """The nodes of a term.

    `nodes` is a list of pairs of a number of binders and a term that stands inside of them, the whole one first.
    `links` has for each node the list of the numbers of the nodes of its parts, which come later.
    """

    def __init__(self, term):
        self.nodes = [(0, term)]
        self.links = []
        start = 0
        while start < len(self.nodes):
            rows = [_parts_of(depth, inner) for depth, inner in self.nodes[start:]]
            start = len(self.nodes)
            self._put(rows, start)

    def _put(self, rows, start):
        below = [node for row in rows for node in row]
        if len(below) > MANY:
            below = distinct(below)
            for row in rows:
                self.links.append([start + place_of(below, node) for node in row])
        else:
            for row in rows:
                self.links.append(list(range(start, start + len(row))))
                start += len(row)
        self.nodes.extend(below)

    def all_values(self, value_of):
        """The list of the values of all nodes.

        `value_of(term, depth, parts)` is the value of a term inside of `depth` binders if its parts have these values.
        """
        found = [None for _ in self.nodes]
        for k in range(len(self.nodes) - 1, -1, -1):
            depth, inner = self.nodes[k]
            found[k] = value_of(inner, depth, [found[part] for part in self.links[k]])
        return found


def _parts_of(depth, term):
    return [(depth + bound, term[place]) for place, bound in PLACES[term[0]]]
