"""The types of all terms in a term.

Types are told by their numbers (see elsewhere/numbering.py). A scope is a context that has been met inside of a term;
it is told by a number, too, and consists of the type of its innermost assumption and of the scope without this one.
"""

from elsewhere.branches import Branches
from elsewhere.errors import IllTyped
from elsewhere.numbering import Numbering

NOTHING = -1


class Typed:
    """A term in a context, with the type of each of its nodes in each scope in which the node stands.

    `found` is the dict from the pairs of a node and a scope to the number of the type; the parts of a node come ahead
    of it there. `scopes` is the list of the scopes.
    """

    def __init__(self, context, term):
        self.numbering = Numbering()
        self.branches = Branches(term)
        self.scopes = []
        self.known = {}
        self.notes = {}
        self.found = {}
        scope = NOTHING
        for a in reversed(context):
            scope = self._scope(self._number(a), scope)
        self.outermost = scope
        self._fill()

    def formula(self, number):
        """The formula with a number."""
        return self.numbering.formulas[number]

    def of_whole(self):
        """The number of the type of the whole term."""
        return self.found[(0, self.outermost)]

    def parts_of(self, node, scope):
        """The pairs of a node and a scope for the parts of a node; those behind a choice only if its type is found."""
        _, term = self.branches.nodes[node]
        links = self.branches.links[node]
        if term[0] == "fun":
            return [(links[0], self._scope(self.note(node), scope))]
        if term[0] != "case":
            return [(part, scope) for part in links]
        choice = (links[0], scope)
        if choice not in self.found:
            return [choice]
        a, b = self._split("or", self.found[choice])
        return [choice, (links[1], self._scope(a, scope)), (links[2], self._scope(b, scope))]

    def note(self, node):
        """The number of the type that is written in the term of a node."""
        if node not in self.notes:
            _, term = self.branches.nodes[node]
            self.notes[node] = self._number(term[1] if term[0] == "fun" else term[2])
        return self.notes[node]

    def _number(self, a):
        before = len(self.numbering.rows)
        number = self.numbering.number(a)
        if "box" in [row[0] for row in self.numbering.rows[before:]]:
            raise IllTyped("only plain formulas are taken here")
        return number

    def _scope(self, number, outer):
        """The scope with an assumption more than another one."""
        key = (number, outer)
        if key not in self.known:
            self.known[key] = len(self.scopes)
            self.scopes.append(key)
        return self.known[key]

    def _fill(self):
        waiting = [(0, self.outermost)]
        while waiting:
            node, scope = waiting[-1]
            parts = self.parts_of(node, scope)
            missing = [part for part in parts if part not in self.found]
            if missing:
                waiting.append(missing[0])
            else:
                waiting.pop()
                self.found[(node, scope)] = self._result(node, scope, [self.found[part] for part in parts])

    def _result(self, node, scope, given):
        """The type of a node whose parts have the types that are given."""
        _, term = self.branches.nodes[node]
        sign = term[0]
        if sign == "at":
            return self._assumption(term[1], scope)
        if sign == "fun":
            return self.numbering.made("implies", [self.note(node), given[0]])
        if sign == "pair":
            return self.numbering.made("and", given)
        if sign == "left":
            return self.numbering.made("or", [given[0], self.note(node)])
        if sign == "right":
            return self.numbering.made("or", [self.note(node), given[0]])
        if sign == "call":
            a, b = self._split("implies", given[0])
            return self._same(given[1], a, b)
        if sign == "case":
            return self._same(given[1], given[2], given[1])
        if sign == "absurd":
            return self._same(given[0], self.numbering.made("falsum", []), self.note(node))
        return self._split("and", given[0])[0 if sign == "first" else 1]

    def _assumption(self, k, scope):
        while k > 0 and scope != NOTHING:
            scope = self.scopes[scope][1]
            k -= 1
        if scope == NOTHING:
            raise IllTyped("there is no assumption with this number")
        return self.scopes[scope][0]

    def _split(self, sign, number):
        """The numbers of both parts of a type, which has to have a sign."""
        row = self.numbering.rows[number]
        if row[0] != sign:
            raise IllTyped("a part has another sign than is due")
        return (row[1], row[2])

    def _same(self, first, second, result):
        if first != second:
            raise IllTyped("two parts do not fit together")
        return result
