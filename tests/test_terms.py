import time
import unittest

from elsewhere.errors import IllTyped
from elsewhere.terms import lifted, put, type_of, weight
from tests.plain_terms import (
    PARTS, TYPES, Wrong, drawn_terms, numeral, plain_lifted, plain_put, plain_type, plain_weight, exchanged, term_of_type,
)
from tests.samples import F, P, Q, R, T, Dice, box, land, lor, to, tower

AT = ("at", 0)

# A context, a term and its type.
TYPED = (
    ([P], AT, P), ([P, Q, R], ("at", 2), R), ([P, P, Q], ("at", 1), P),
    ([], ("fun", P, AT), to(P, P)), ([Q], ("fun", P, ("at", 1)), to(P, Q)), ([Q], ("fun", P, AT), to(P, P)),
    ([], ("fun", P, ("fun", Q, ("at", 1))), to(P, to(Q, P))), ([], ("fun", P, ("fun", Q, AT)), to(P, to(Q, Q))),
    ([to(P, Q), P], ("call", AT, ("at", 1)), Q), ([P], ("call", ("fun", P, AT), AT), P),
    ([P, Q], ("pair", AT, ("at", 1)), land(P, Q)), ([P], ("pair", AT, AT), land(P, P)),
    ([land(P, Q)], ("first", AT), P), ([land(P, Q)], ("second", AT), Q), ([P, Q], ("second", ("pair", AT, ("at", 1))), Q),
    ([P], ("left", AT, Q), lor(P, Q)), ([P], ("right", AT, Q), lor(Q, P)), ([], ("left", ("fun", P, AT), F), lor(to(P, P), F)),
    ([lor(P, Q)], ("case", AT, ("right", AT, Q), ("left", AT, P)), lor(Q, P)),
    ([lor(P, Q), R], ("case", AT, ("at", 2), ("at", 2)), R), ([lor(P, P)], ("case", AT, AT, AT), P),
    ([lor(P, Q), R], ("case", AT, ("pair", ("at", 2), ("at", 1)), ("pair", ("at", 2), ("at", 1))), land(R, lor(P, Q))),
    ([F], ("absurd", AT, P), P), ([F], ("absurd", AT, F), F), ([F], ("absurd", AT, lor(P, to(Q, R))), lor(P, to(Q, R))),
    ([], ("fun", F, ("absurd", AT, P)), to(F, P)),
)

# A context and a term without a type in it.
UNTYPED = (
    ([], AT), ([P], ("at", 1)), ([P, Q], ("at", 2)), ([P], ("at", 10 ** 30)), ([], ("fun", P, ("at", 1))), ([Q], ("fun", P, ("at", 2))),
    ([P], ("call", AT, AT)), ([to(P, Q)], ("call", AT, AT)), ([to(P, Q), Q], ("call", AT, ("at", 1))),
    ([to(P, Q), to(P, P)], ("call", AT, ("at", 1))), ([P, to(P, Q)], ("call", AT, ("at", 1))), ([P], ("call", ("fun", Q, AT), AT)),
    ([land(P, Q), P], ("call", AT, ("at", 1))), ([P], ("call", ("fun", to(P, P), AT), AT)),
    ([P], ("pair", AT, ("at", 1))), ([P], ("pair", ("at", 1), AT)),
    ([P], ("first", AT)), ([lor(P, Q)], ("first", AT)), ([to(P, Q)], ("second", AT)), ([F], ("second", AT)), ([], ("first", ("fun", P, AT))),
    ([P, Q], ("first", ("left", ("pair", AT, ("at", 1)), P))),
    ([], ("left", AT, P)), ([P], ("right", ("at", 1), P)),
    ([P], ("case", AT, AT, AT)), ([land(P, P)], ("case", AT, AT, AT)), ([lor(P, Q)], ("case", AT, AT, AT)), ([to(P, P)], ("case", AT, AT, AT)),
    ([lor(P, Q)], ("case", AT, ("left", AT, Q), ("left", AT, P))), ([lor(P, P)], ("case", AT, AT, ("at", 2))), ([lor(P, P)], ("case", AT, ("at", 2), AT)),
    ([lor(P, Q), R], ("case", AT, ("at", 2), ("at", 1))), ([P], ("case", ("left", AT, Q), AT, AT)), ([P, lor(P, P)], ("case", ("at", 2), AT, AT)),
    ([P], ("absurd", AT, Q)), ([to(P, F)], ("absurd", AT, Q)), ([T], ("absurd", AT, Q)), ([], ("absurd", AT, Q)),
    ([P], ("fun", P, ("first", AT))), ([P], ("pair", AT, ("call", AT, AT))), ([P, F], ("right", ("absurd", AT, Q), P)),
)


class Types(unittest.TestCase):
    def test_each_kind(self):
        for context, term, a in TYPED:
            given = list(context)
            self.assertEqual(type_of(context, term), a, term)
            self.assertEqual(context, given)
            self.assertEqual(plain_type(context, term), a)

    def test_no_type(self):
        for context, term in UNTYPED:
            with self.assertRaises(IllTyped, msg=(context, term)) as caught:
                type_of(context, term)
            self.assertIs(type(caught.exception), IllTyped)
            with self.assertRaises(Wrong):
                plain_type(context, term)

    def test_inside_of_each_kind(self):
        # A part without a type leaves the whole without one, wherever it stands.
        for context, term, _ in TYPED:
            for place, _ in PARTS[term[0]]:
                for wrong in (("at", 9), ("call", AT, AT), ("first", ("fun", P, AT)), ("absurd", ("fun", P, AT), P)):
                    with self.assertRaises(IllTyped):
                        type_of(context, exchanged(term, place, wrong))

    def test_drawn_terms(self):
        for context, term, a in drawn_terms(1101, 250, 5):
            given = list(context)
            self.assertEqual(type_of(context, term), a)
            self.assertEqual(context, given)

    def test_drawn_changes(self):
        dice = Dice(1102)
        seen = {True: 0, False: 0}

        def changed(term):
            kind = dice.below(3 + len(PARTS[term[0]]))
            if kind >= 3:
                place = PARTS[term[0]][kind - 3][0]
                return exchanged(term, place, changed(term[place]))
            if term[0] == "at":
                return ("at", dice.below(4))
            if term[0] in ("fun", "left", "right", "absurd") and kind == 0:
                return exchanged(term, 1 if term[0] == "fun" else 2, TYPES[dice.below(len(TYPES))])
            if term[0] in ("call", "pair") and kind == 0:
                return (term[0], term[2], term[1])
            return ("at", dice.below(4))

        for context, term, _ in drawn_terms(1103, 250, 5):
            for _ in range(4):
                other = changed(term)
                try:
                    a = plain_type(context, other)
                except Wrong:
                    a = None
                seen[a is not None] += 1
                if a is None:
                    with self.assertRaises(IllTyped, msg=(context, other)):
                        type_of(context, other)
                else:
                    self.assertEqual(type_of(context, other), a)
        self.assertGreater(min(seen.values()), 150)

    def test_wrong_annotations(self):
        for term in (
            ("call", ("fun", Q, AT), AT), ("case", ("left", AT, Q), AT, AT), ("case", ("right", AT, lor(P, P)), AT, AT),
            ("call", ("fun", P, ("absurd", AT, Q)), AT), ("first", ("left", AT, P)), ("call", ("fun", box(P), AT), AT),
        ):
            with self.assertRaises(IllTyped):
                type_of([P], term)

    def test_types_are_plain(self):
        for context, term in (([box(P)], AT), ([], ("fun", box(P), AT)), ([P], ("left", AT, to(P, box(F)))), ([F], ("absurd", AT, box(P)))):
            with self.assertRaises(IllTyped):
                type_of(context, term)

    def test_deep_terms(self):
        term = AT
        for _ in range(3000):
            term = ("call", ("fun", P, AT), term)
        self.assertEqual(type_of([P], term), P)
        self.assertEqual(type_of([P, Q], ("pair", term, ("first", ("pair", ("at", 1), term)))), land(P, Q))
        with self.assertRaises(IllTyped):
            type_of([Q], term)
        term = ("at", 1)
        for _ in range(3000):
            term = ("first", ("pair", term, AT))
        self.assertEqual(type_of([P, Q], term), Q)
        term = ("left", AT, Q)
        for _ in range(1000):
            term = ("case", term, ("left", AT, Q), ("right", AT, P))
        self.assertEqual(type_of([P], term), lor(P, Q))

    def test_great_types(self):
        # The types stand for more tuples than could be compared one by one.
        begun = time.process_time()
        first, second = (tower(lambda a: land(a, a), 40) for _ in range(2))
        self.assertEqual(type_of([first], ("call", ("fun", second, ("second", AT)), AT))[0], "and")
        third = tower(lambda a: land(a, a), 40, Q)
        with self.assertRaises(IllTyped):
            type_of([first], ("call", ("fun", third, AT), AT))
        term = tower(lambda t: ("pair", t, t), 40, AT)
        self.assertEqual(type_of([P], ("call", ("fun", second, ("fun", P, AT)), term)), to(P, P))
        self.assertLess(time.process_time() - begun, 5)


class Weights(unittest.TestCase):
    def test_each_kind(self):
        for term, wanted in (
            (AT, 1), (("at", 7), 1), (("fun", to(P, Q), AT), 2), (("call", AT, AT), 3), (("pair", AT, ("pair", AT, AT)), 5),
            (("first", AT), 2), (("second", ("first", AT)), 3), (("left", AT, land(P, Q)), 2), (("right", AT, P), 2),
            (("case", AT, AT, AT), 4), (("case", ("fun", P, AT), AT, ("absurd", AT, P)), 6), (("absurd", AT, lor(P, Q)), 2),
        ):
            self.assertEqual(weight(term), wanted, term)

    def test_drawn_terms(self):
        for _, term, _ in drawn_terms(1101, 250, 5):
            self.assertEqual(weight(term), plain_weight(term))

    def test_shared_and_deep_terms(self):
        self.assertEqual(weight(tower(lambda t: ("pair", t, t), 60, AT)), 2 ** 61 - 1)
        self.assertEqual(weight(tower(lambda t: ("case", t, t, t), 40, AT)), (3 ** 41 - 1) // 2)
        self.assertEqual(weight(tower(lambda t: ("fun", P, t), 5000, AT)), 5001)
        self.assertEqual(weight(numeral(2000)), 4003)


class Numbers(unittest.TestCase):
    def test_lifted_by_hand(self):
        for term, by, above, wanted in (
            (("at", 0), 3, 0, ("at", 3)), (("at", 0), 3, 1, ("at", 0)), (("at", 4), 2, 4, ("at", 6)), (("at", 3), 2, 4, ("at", 3)),
            (("fun", P, ("at", 0)), 2, 0, ("fun", P, ("at", 0))), (("fun", P, ("at", 1)), 2, 0, ("fun", P, ("at", 3))),
            (("fun", P, ("at", 1)), 2, 1, ("fun", P, ("at", 1))), (("fun", P, ("at", 2)), 2, 1, ("fun", P, ("at", 4))),
            (("fun", P, ("fun", Q, ("pair", ("at", 1), ("at", 2)))), 5, 0, ("fun", P, ("fun", Q, ("pair", ("at", 1), ("at", 7))))),
            (("call", ("at", 0), ("at", 1)), 1, 1, ("call", ("at", 0), ("at", 2))), (("first", ("at", 1)), 1, 0, ("first", ("at", 2))),
            (("second", ("at", 1)), 1, 0, ("second", ("at", 2))), (("left", ("at", 0), Q), 1, 0, ("left", ("at", 1), Q)),
            (("right", ("at", 0), Q), 4, 0, ("right", ("at", 4), Q)), (("absurd", ("at", 2), Q), 1, 2, ("absurd", ("at", 3), Q)),
            (("case", ("at", 0), ("at", 0), ("at", 0)), 1, 0, ("case", ("at", 1), ("at", 0), ("at", 0))),
            (("case", ("at", 0), ("at", 1), ("at", 2)), 1, 0, ("case", ("at", 1), ("at", 2), ("at", 3))),
            (("case", ("at", 1), ("at", 1), ("at", 2)), 1, 1, ("case", ("at", 2), ("at", 1), ("at", 3))),
            (("case", ("fun", P, ("at", 1)), ("fun", P, ("at", 2)), ("fun", P, ("at", 1))), 1, 0,
             ("case", ("fun", P, ("at", 2)), ("fun", P, ("at", 3)), ("fun", P, ("at", 1)))),
        ):
            self.assertEqual(lifted(term, by, above), wanted, (term, by, above))

    def test_put_by_hand(self):
        value = ("call", ("at", 0), ("at", 2))
        for term, wanted in (
            (("at", 0), value), (("at", 1), ("at", 0)), (("at", 9), ("at", 8)),
            (("fun", P, ("at", 0)), ("fun", P, ("at", 0))), (("fun", P, ("at", 1)), ("fun", P, ("call", ("at", 1), ("at", 3)))),
            (("fun", P, ("at", 2)), ("fun", P, ("at", 1))),
            (("fun", P, ("fun", Q, ("at", 2))), ("fun", P, ("fun", Q, ("call", ("at", 2), ("at", 4))))),
            (("fun", P, ("fun", Q, ("pair", ("at", 1), ("at", 3)))), ("fun", P, ("fun", Q, ("pair", ("at", 1), ("at", 2))))),
            (("pair", ("at", 0), ("at", 1)), ("pair", value, ("at", 0))), (("call", ("at", 1), ("at", 0)), ("call", ("at", 0), value)),
            (("first", ("at", 0)), ("first", value)), (("second", ("at", 2)), ("second", ("at", 1))),
            (("left", ("at", 0), Q), ("left", value, Q)), (("right", ("at", 1), Q), ("right", ("at", 0), Q)),
            (("absurd", ("at", 0), Q), ("absurd", value, Q)),
            (("case", ("at", 0), ("at", 0), ("at", 1)), ("case", value, ("at", 0), ("call", ("at", 1), ("at", 3)))),
            (("case", ("at", 1), ("at", 1), ("at", 2)), ("case", ("at", 0), ("call", ("at", 1), ("at", 3)), ("at", 1))),
            (("case", ("at", 3), ("fun", P, ("at", 2)), ("fun", P, ("at", 1))), ("case", ("at", 2), ("fun", P, ("call", ("at", 2), ("at", 4))), ("fun", P, ("at", 1)))),
        ):
            self.assertEqual(put(term, value), wanted, term)

    def test_drawn_terms(self):
        dice = Dice(1104)
        rows = drawn_terms(1101, 250, 5)
        for context, term, a in rows:
            by, above = dice.below(4), dice.below(4)
            self.assertEqual(lifted(term, by, above), plain_lifted(term, by, above))
            self.assertEqual(lifted(term, 0, above), term)
            self.assertEqual(lifted(term, 7, len(context)), term)
            self.assertEqual(lifted(term, 7, 10 ** 20), term)
            more = [TYPES[dice.below(len(TYPES))] for _ in range(by)]
            above = min(above, len(context))
            self.assertEqual(type_of([*context[:above], *more, *context[above:]], lifted(term, by, above)), a)
            other = rows[dice.below(len(rows))][1]
            self.assertEqual(put(term, other), plain_put(term, other))

    def test_types_of_put(self):
        dice = Dice(1105)
        done = 0
        for context, term, a in drawn_terms(1106, 300, 5):
            if not context:
                continue
            value = term_of_type(dice, context[1:], context[0], 3)
            if value is not None:
                done += 1
                found = put(term, value)
                self.assertEqual(type_of(context[1:], found), a)
                self.assertEqual(found, plain_put(term, value))
        self.assertGreater(done, 60)

    def test_shared_and_deep_terms(self):
        term = tower(lambda t: ("pair", t, t), 50, AT)
        self.assertEqual(weight(put(term, ("pair", AT, AT))), 2 ** 52 - 1)
        self.assertEqual(weight(lifted(term, 3, 0)), 2 ** 51 - 1)
        deep = tower(lambda t: ("fun", P, t), 3000, ("at", 3000))
        found, other = put(deep, ("at", 5)), lifted(deep, 2, 0)
        for _ in range(3000):
            found, other = found[2], other[2]
        self.assertEqual((found, other), (("at", 3005), ("at", 3002)))

    def test_arguments_stay(self):
        context = [P, lor(P, Q)]
        type_of(context, ("at", 1))
        self.assertEqual(context, [P, lor(P, Q)])
