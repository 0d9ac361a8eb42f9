import unittest

from elsewhere.sequent import is_sequent, sequent
from tests.samples import F, P, Q, R, Dice, box, land, lor, mixed_formula, to


class Sequents(unittest.TestCase):
    def test_any_order(self):
        self.assertEqual(sequent([Q, P], [R, F]), ((P, Q), (F, R)))
        self.assertEqual(sequent([P, Q], [F, R]), ((P, Q), (F, R)))

    def test_ascending_as_tuples(self):
        rows = [P, to(P, Q), F, box(P), lor(P, Q), land(P, Q), box(box(P)), Q]
        left, right = sequent(rows, list(reversed(rows)))
        wanted = (land(P, Q), box(box(P)), box(P), F, to(P, Q), lor(P, Q), P, Q)
        self.assertEqual(left, wanted)
        self.assertEqual(right, wanted)

    def test_repetitions(self):
        self.assertEqual(sequent([P, P, Q, P], [box(P), box(("var", "p"))]), ((P, Q), (box(P),)))

    def test_a_formula_on_both_sides_stays_on_both(self):
        self.assertEqual(sequent([P], [P]), ((P,), (P,)))

    def test_empty(self):
        self.assertEqual(sequent([], []), ((), ()))
        self.assertEqual(sequent([P], []), ((P,), ()))
        self.assertEqual(sequent([], [P]), ((), (P,)))

    def test_kinds(self):
        found = sequent([Q, P], [])
        self.assertIs(type(found), tuple)
        self.assertTrue(all(type(side) is tuple for side in found))

    def test_the_lists_stay(self):
        left, right = [Q, P, Q], [R, F, F]
        sequent(left, right)
        self.assertEqual((left, right), ([Q, P, Q], [R, F, F]))


class IsSequent(unittest.TestCase):
    def test_ascending_sides(self):
        for value in (((), ()), ((P,), ()), ((), (P,)), ((P, Q), (F, P)), ((box(P), P), (P, Q, R)), ((P,), (P,))):
            self.assertIs(is_sequent(value), True, value)

    def test_exchanged(self):
        for value in (((Q, P), ()), ((), (Q, P)), ((P, R, Q), (P,)), ((P,), (P, F)), ((P, box(P)), (P,))):
            self.assertIs(is_sequent(value), False, value)

    def test_doubled(self):
        for value in (((P, P), ()), ((), (P, P)), ((P, Q, Q), (P,)), ((P,), (F, F, P)), ((box(P), box(P)), ())):
            self.assertIs(is_sequent(value), False, value)

    def test_drawn_sequents(self):
        dice = Dice(31)
        for _ in range(100):
            rows = [mixed_formula(dice, 3) for _ in range(5)]
            value = sequent(rows[:3], rows[3:])
            self.assertIs(is_sequent(value), True)
            self.assertEqual(sorted(set(rows[:3])), list(value[0]))
            for k in range(1, len(value[0])):
                left = list(value[0])
                left[k - 1], left[k] = left[k], left[k - 1]
                self.assertIs(is_sequent((tuple(left), value[1])), False)
                self.assertIs(is_sequent((value[1], tuple(left))), False)
