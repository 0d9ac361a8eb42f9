"""The search for a derivation.

The sequents that are met are nodes. A node has a derivation if it is closed, or if a use of a rule is found all of
whose premises have one; what counts is the least set of nodes with this property. The search goes down from node to
node. Where it meets a node again that it is still busy with, it takes it for one without a derivation. What is found
out in this way is kept as long as this node may indeed have none (it waits), and given up if it turns out to have one.

Much is not searched twice: a node has a derivation if a part of it has one, and has none if it is a part of the
sequent that a world was made of.
"""

from elsewhere.book import Book
from elsewhere.calculus import ALONE, NO_MAIN
from elsewhere.plan import NEXT, SAME, branching_asks, saturating_asks
from elsewhere.settled import is_settled, settled_proof
from elsewhere.universe import bits

JOINT = ("linear_right", "two_right")

NEW = 0
BUSY = 1
WAITING = 2
REFUTED = 3
PROVED = 4


class Node:
    """A sequent of a search.

    `same` is the node whose world refutes this one, too, if there is such a node; otherwise this node, if it is
    refuted, stands for a world itself, which sees those of the nodes of `above`.
    """

    def __init__(self, left, right):
        self.left = left
        self.right = right
        self.state = NEW
        self.proof = -1
        self.begin(0, 0)

    def begin(self, depth, mark):
        """Makes ready for work; `lowest` is the least depth of a busy node that the answer may rest on."""
        self.depth = depth
        self.lowest = depth
        self.mark = mark
        self.asks = []
        self.place = 0
        self.given = []
        self.answers = {}
        self.needed = 0
        self.same = None
        self.above = []


class Search:
    """The nodes that were met, and the path down to the one that is worked on."""

    def __init__(self, calculus):
        self.calculus = calculus
        self.book = Book(calculus)
        self.nodes = {}
        self.path = []
        self.held = []
        self.worlds = []

    def result(self, left, right):
        """The node of a sequent, which is proved or refuted."""
        root = self._node(left, right)
        self._enter(root)
        while self.path:
            self._advance(self.path[-1])
        return root

    def _node(self, left, right):
        key = (left, right)
        if key not in self.nodes:
            self.nodes[key] = Node(left, right)
        return self.nodes[key]

    def _enter(self, node):
        """Begins with a node; the answer may be there at once."""
        left, right = node.left, node.right
        node.begin(len(self.path), len(self.held))
        node.state = BUSY
        self.path.append(node)
        proof = self._closed(left, right)
        if proof < 0:
            proof = self.book.part_of(left, right)
        if proof >= 0:
            self._prove(node, proof)
            return
        node.same = self._greater_world(left, right)
        if node.same is not None:
            self._refute(node)
            return
        node.asks = saturating_asks(self.calculus, left, right)
        if not node.asks and not is_settled(self.calculus, left, right):
            node.asks = branching_asks(self.calculus, left, right)
        elif not node.asks:
            proof = settled_proof(self.book, left, right)
            if proof >= 0:
                self._prove(node, proof)

    def _closed(self, left, right):
        """The number of the derivation of a closed sequent, or -1."""
        both = left & right
        whole = (left, right)
        if both:
            return self.book.infer("axiom", bits(both)[0], whole, [])
        if left & self.calculus.falsum:
            return self.book.infer("falsum", NO_MAIN, whole, [])
        if self.calculus.logic in ALONE:
            for k in bits(right & self.calculus.implications):
                if self.calculus.parts[k][1] & left:
                    inner = bits(self.calculus.parts[k][1])[0]
                    return self.book.infer("implies_right", k, whole, [self.book.infer("axiom", inner, whole, [])])
        return -1

    def _greater_world(self, left, right):
        """A node that stands for a world and contains a sequent, or None."""
        for node in self.worlds:
            if not (left & ~node.left) and not (right & ~node.right):
                return node
        return None

    def _advance(self, node):
        """One move for the node at the end of the path."""
        if node.place == len(node.asks):
            self._refute(node)
            return
        ask = node.asks[node.place]
        child = self._node(ask.left, ask.right)
        if child.state == NEW:
            self._enter(child)
        elif child.state != PROVED:
            self._take_refusal(node, ask, child)
        elif self.book.is_within(child.proof, node.left, node.right):
            # The premise was derived without what the rule has added: so the conclusion needs no rule.
            self._prove(node, child.proof)
        elif ask.rule in JOINT:
            self._take_joint_proof(node, ask, child.proof)
        else:
            self._take_proof(node, ask, child.proof)

    def _take_proof(self, node, ask, proof):
        node.given = node.given + [proof]
        node.place += 1
        if ask.last:
            self._prove(node, self.book.infer(ask.rule, ask.main, ask.whole, node.given))

    def _take_joint_proof(self, node, ask, proof):
        """Takes the proof of a premise that need not be followed by those of all others.

        The implications that no proof has used are weakened away, and so they need no premises.
        """
        left, right = ask.whole
        implications = right & self.calculus.implications
        fresh = self.calculus.parts[bits(ask.own)[0]][1] if ask.own else 0
        node.answers[node.place] = proof
        node.needed = node.needed | ask.own | (self.book.rows[proof].right & implications & ~fresh)
        if not node.needed:
            node.needed = implications & -implications
        for place, other in enumerate(node.asks):
            if other.own & node.needed and place not in node.answers:
                node.place = place
                return
        order = sorted([(other.last, other.own, place) for place, other in enumerate(node.asks)])
        given = [node.answers[place] for _, _, place in order if place in node.answers]
        whole = (left, (right & ~implications) | node.needed)
        self._prove(node, self.book.infer(ask.rule, NO_MAIN, whole, given))

    def _take_refusal(self, node, ask, child):
        if child.state == BUSY:
            node.lowest = min(node.lowest, child.depth)
        if child.state == WAITING:
            node.lowest = min(node.lowest, child.lowest)
        if ask.otherwise == SAME:
            node.same = child
            self._refute(node)
            return
        node.above.append(child)
        if ask.otherwise == NEXT:
            node.given = []
            node.place += 1
        else:
            self._refute(node)

    def _prove(self, node, proof):
        self.path.pop()
        node.state = PROVED
        node.proof = proof
        self.book.remember(proof)
        for other in self.held[node.mark:]:
            other.state = NEW
        del self.held[node.mark:]

    def _refute(self, node):
        self.path.pop()
        self.held.append(node)
        node.state = WAITING
        if node.lowest == node.depth:
            for other in self.held[node.mark:]:
                self._refute_for_good(other)
            del self.held[node.mark:]

    def _refute_for_good(self, node):
        node.state = REFUTED
        if node.same is None:
            self.worlds.append(node)
