import time
import unittest

from elsewhere.errors import IsNormal
from elsewhere.reduction import normal, redexes, step
from elsewhere.terms import type_of, weight
from tests.plain_terms import PARTS, contracted, drawn_terms, exchanged, inside_out, numeral, plain_lifted, plain_steps
from tests.samples import F, P, Q, land, lor, to, tower

AT = ("at", 0)
REDEXES = (
    (("call", ("fun", P, ("pair", AT, ("at", 1))), ("at", 4)), ("pair", ("at", 4), AT)),
    (("first", ("pair", ("at", 1), ("at", 2))), ("at", 1)),
    (("second", ("pair", ("at", 1), ("at", 2))), ("at", 2)),
    (("case", ("left", ("at", 3), Q), ("pair", AT, ("at", 1)), ("at", 9)), ("pair", ("at", 3), AT)),
    (("case", ("right", ("at", 3), Q), ("at", 9), ("pair", AT, ("at", 1))), ("pair", ("at", 3), AT)),
)
NORMAL = (
    AT, ("fun", P, AT), ("call", AT, ("fun", P, AT)), ("call", ("pair", AT, AT), AT), ("call", ("call", AT, AT), AT),
    ("call", ("absurd", AT, P), AT), ("first", AT), ("first", ("fun", P, AT)), ("second", ("left", AT, P)), ("first", ("first", AT)),
    ("second", ("case", AT, ("pair", AT, AT), ("pair", AT, AT))), ("call", ("case", AT, ("fun", P, AT), ("fun", P, AT)), AT),
    ("case", AT, AT, AT), ("case", ("case", AT, ("left", AT, P), ("left", AT, P)), AT, AT), ("case", ("pair", AT, AT), AT, AT),
    ("case", ("fun", P, AT), AT, AT), ("absurd", ("absurd", AT, F), P), ("absurd", ("pair", AT, AT), P), ("pair", ("left", AT, P), AT),
    ("left", ("fun", P, AT), P), ("right", ("pair", AT, AT), P),
)
# A term of each kind, into whose parts others are put.
AROUND = (
    ("fun", P, AT), ("call", AT, AT), ("pair", AT, AT), ("first", AT), ("second", AT), ("left", AT, P), ("right", AT, P),
    ("case", AT, AT, AT), ("absurd", AT, P),
)


class Steps(unittest.TestCase):
    def test_each_redex_at_the_top(self):
        for term, wanted in REDEXES:
            self.assertEqual(contracted(term), wanted)
            self.assertEqual(redexes(term), 1)
            self.assertEqual(step(term), wanted)

    def test_each_redex_inside_of_each_kind(self):
        for redex, wanted in REDEXES:
            for term in AROUND:
                for place, _ in PARTS[term[0]]:
                    whole = exchanged(term, place, redex)
                    self.assertEqual(redexes(whole), 1, whole)
                    self.assertEqual(step(whole), exchanged(term, place, wanted), whole)
                    for outer in AROUND:
                        for further, _ in PARTS[outer[0]]:
                            self.assertEqual(step(exchanged(outer, further, whole)), plain_steps(exchanged(outer, further, whole))[0])

    def test_normal_terms(self):
        for term in NORMAL:
            self.assertEqual(redexes(term), 0, term)
            with self.assertRaises(IsNormal, msg=term) as caught:
                step(term)
            self.assertIs(type(caught.exception), IsNormal)

    def test_the_first_one(self):
        one, other = REDEXES[1], REDEXES[2]
        for sign in ("pair", "call"):
            self.assertEqual(step((sign, one[0], other[0])), (sign, one[1], other[0]))
            self.assertEqual(step((sign, AT, other[0])), (sign, AT, other[1]))
        self.assertEqual(step(("case", one[0], other[0], one[0])), ("case", one[1], other[0], one[0]))
        self.assertEqual(step(("case", AT, other[0], one[0])), ("case", AT, other[1], one[0]))
        self.assertEqual(step(("case", AT, AT, one[0])), ("case", AT, AT, one[1]))
        # The term itself is ahead of its parts.
        self.assertEqual(step(("first", ("pair", one[0], other[0]))), one[0])
        self.assertEqual(step(("second", ("pair", one[0], other[0]))), other[0])
        self.assertEqual(step(("call", ("fun", P, ("pair", AT, one[0])), other[0])),
                         ("pair", other[0], ("first", ("pair", AT, ("at", 1)))))
        self.assertEqual(step(("case", ("left", one[0], P), ("pair", AT, AT), other[0])), ("pair", one[0], one[0]))
        self.assertEqual(redexes(("first", ("pair", one[0], ("pair", other[0], one[0])))), 4)

    def test_drawn_terms(self):
        seen = set()
        for context, term, a in drawn_terms(1201, 300, 5):
            after = plain_steps(term)
            seen.add(min(len(after), 4))
            self.assertEqual(redexes(term), len(after))
            if after:
                self.assertEqual(step(term), after[0])
                self.assertEqual(type_of(context, step(term)), a)
            else:
                with self.assertRaises(IsNormal):
                    step(term)
        self.assertEqual(seen, {0, 1, 2, 3, 4})

    def test_shared_and_deep_terms(self):
        self.assertEqual(redexes(tower(lambda t: ("pair", t, t), 50, REDEXES[1][0])), 2 ** 50)
        term = tower(lambda t: ("fun", P, t), 3000, REDEXES[1][0])
        self.assertEqual(redexes(term), 1)
        found = step(term)
        for _ in range(3000):
            found = found[2]
        self.assertEqual(found, ("at", 1))


class NormalTerms(unittest.TestCase):
    def test_drawn_terms(self):
        many = 0
        for context, term, a in drawn_terms(1202, 300, 5):
            found = normal(term)
            self.assertEqual(redexes(found), 0)
            self.assertEqual(type_of(context, found), a)
            self.assertEqual(found, inside_out(term))
            by_steps = term
            while redexes(by_steps):
                by_steps = step(by_steps)
                many += 1
            self.assertEqual(found, by_steps)
            last = term
            while plain_steps(last):
                last = plain_steps(last)[-1]
            self.assertEqual(found, last)
            self.assertEqual(normal(found), found)
        self.assertGreater(many, 500)

    def test_normal_terms_stay(self):
        for term in NORMAL[:-7]:
            self.assertEqual(normal(term), term)
        for term in (("left", ("at", 3), P), ("fun", P, ("fun", Q, ("at", 7)))):
            self.assertEqual(normal(term), term)

    def test_simple_ones(self):
        for term, wanted in REDEXES:
            self.assertEqual(normal(term), wanted)
        self.assertEqual(normal(("fun", P, ("call", ("fun", P, ("at", 1)), ("at", 1)))), ("fun", P, AT))
        self.assertEqual(normal(("fun", P, ("call", ("fun", Q, ("fun", P, ("at", 2))), ("at", 1)))), ("fun", P, ("fun", P, ("at", 1))))
        # Contracting makes new redexes: at the top, and where a function or a choice is put.
        apply = ("fun", to(P, Q), ("call", AT, ("at", 1)))
        self.assertEqual(normal(("call", apply, ("fun", P, ("pair", AT, AT)))), ("pair", AT, AT))
        self.assertEqual(normal(("first", ("first", ("pair", ("pair", ("at", 5), AT), AT)))), ("at", 5))
        self.assertEqual(normal(("call", ("fun", lor(P, Q), ("case", AT, AT, ("at", 1))), ("left", ("at", 3), Q))), ("at", 3))
        self.assertEqual(normal(("call", ("fun", land(P, Q), ("second", AT)), ("pair", ("at", 1), ("at", 2)))), ("at", 2))

    def test_what_is_left_out_need_not_be_made_normal(self):
        # Nine times, and this nine times again, and so on: nobody can write this out.
        great = ("call", ("call", numeral(6, to(to(P, P), to(P, P))), numeral(9, to(P, P))), numeral(9))
        self.assertEqual(type_of([], great), to(to(P, P), to(P, P)))
        self.assertEqual(normal(("first", ("pair", ("at", 3), great))), ("at", 3))

    def test_numbers(self):
        def times(one, other):
            return ("fun", to(P, P), ("call", plain_lifted(one, 1, 0), ("call", plain_lifted(other, 1, 0), AT)))

        self.assertEqual(normal(times(numeral(3), numeral(4))), numeral(12))
        self.assertEqual(normal(times(numeral(0), numeral(4))), numeral(0))
        term = numeral(2)
        for _ in range(6):
            term = times(term, numeral(2))
        self.assertEqual(normal(term), numeral(128))
        power = ("call", numeral(5, to(P, P)), numeral(3))
        self.assertEqual(type_of([], power), to(to(P, P), to(P, P)))
        self.assertEqual(normal(power), numeral(243))

    def test_great_and_deep_terms(self):
        begun = time.process_time()
        term = tower(lambda t: ("call", ("fun", P, AT), t), 3000, ("at", 7))
        self.assertEqual(normal(term), ("at", 7))
        term = tower(lambda t: ("call", ("fun", P, ("pair", AT, AT)), t), 40, AT)
        self.assertEqual(weight(normal(term)), 2 ** 41 - 1)
        self.assertEqual(redexes(normal(term)), 0)
        power = ("call", numeral(12, to(P, P)), numeral(2))
        self.assertEqual(weight(normal(power)), 2 * 4096 + 3)
        self.assertLess(time.process_time() - begun, 10)


class Closed(unittest.TestCase):
    def test_drawn_terms(self):
        found = 0
        for context, term, a in drawn_terms(1203, 900, 5):
            if not context:
                found += 1
                self.check(normal(term), a)
        self.assertGreater(found, 30)

    def check(self, term, a):
        """A normal term in the empty context tells why its type is valid."""
        self.assertIn(term[0], ("fun", "pair", "left", "right"))
        self.assertNotEqual(a, F)
        if term[0] in ("left", "right"):
            side = a[1 if term[0] == "left" else 2]
            self.assertEqual(type_of([], term[1]), side)
            self.check(term[1], side)
        if term[0] == "pair":
            for k in (1, 2):
                self.check(term[k], a[k])
