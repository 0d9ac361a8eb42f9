"""Derivations in Int that are made from terms with types."""

from elsewhere.builder import Builder
from elsewhere.folding import contains
from elsewhere.sequent import added

# The rules whose main formula is the type of a term, and those whose main formula is that of its first part.
MAKING = {"fun": "implies_right", "pair": "and_right", "left": "or_right", "right": "or_right"}
USING = {"call": "implies_left", "first": "and_left", "second": "and_left"}


class Proving:
    """The steps of the nodes of a term (see elsewhere/typed.py).

    Each node has, in each scope, a step with the types of the scope on its left and the type of the node on its right.
    """

    def __init__(self, typed):
        self.typed = typed
        self.builder = Builder("Int")
        self.sides = []
        self.marks = []
        self.steps = {}
        self.reached = {}
        for number, outer in typed.scopes:
            self.sides.append(added(self._side(outer), [typed.formula(number)]))
            self.marks.append(tuple(sorted(set([number, *self._mark(outer)]))))

    def _side(self, scope):
        return self.sides[scope] if scope >= 0 else ()

    def _mark(self, scope):
        return self.marks[scope] if scope >= 0 else ()

    def derivation(self):
        """The derivation of the type of the term from its context."""
        for (node, scope), number in list(self.typed.found.items()):
            # What has been derived once need not be derived in another way.
            key = (self._mark(scope), number)
            if key not in self.reached:
                self.reached[key] = self._step(node, scope, self.typed.formula(number))
            self.steps[(node, scope)] = self.reached[key]
        last = self.steps[(0, self.typed.outermost)]
        return self.builder.derivation(last, self.builder.conclusion(last))

    def _step(self, node, scope, a):
        _, term = self.typed.branches.nodes[node]
        goal = (self._side(scope), (a,))
        parts = self.typed.parts_of(node, scope)
        given = [self.steps[part] for part in parts]
        if term[0] == "at":
            return self.builder.infer("axiom", goal, a, [])
        if term[0] in MAKING:
            return self.builder.infer(MAKING[term[0]], goal, a, given)
        main = self.typed.formula(self.typed.found[parts[0]])
        inner = (added(goal[0], [main]), goal[1])
        if term[0] == "absurd":
            step = self.builder.infer("falsum", inner, None, [])
        elif term[0] == "case":
            step = self.builder.infer("or_left", inner, main, given[1:])
        else:
            # The type of the whole is a part of that of its first part.
            step = self.builder.infer(USING[term[0]], inner, main, [*given[1:], self.builder.axiom_step(a)])
        if contains(goal[0], main):
            return step
        return self.builder.infer("cut", goal, main, [given[0], step])
