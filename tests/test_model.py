import unittest

from elsewhere.errors import ElsewhereError, InvalidModel, NotPlain
from elsewhere.formula import dia, is_plain, neg
from elsewhere.model import Model, disjoint, forcing, generated, truth
from tests.samples import (
    Dice, F, P, Q, R, T, box, chain, doubled_tower, land, lor, mixed_formula, mixed_model, mixed_order,
    small_formulas, to, told, tower,
)


def plain_truth(model, v, a):
    """Whether a formula is true at a world, by a plain walk."""
    if a[0] == "var":
        return v in model.true_worlds().get(a[1], [])
    if a[0] == "falsum":
        return False
    if a[0] == "box":
        return all(plain_truth(model, w, a[1]) for w in model.seen(v))
    left, right = plain_truth(model, v, a[1]), plain_truth(model, v, a[2])
    return {"and": left and right, "or": left or right, "implies": right or not left}[a[0]]


def plain_forcing(model, v, a):
    if a[0] in ("var", "falsum"):
        return plain_truth(model, v, a)
    if a[0] == "implies":
        return all(plain_forcing(model, w, a[2]) or not plain_forcing(model, w, a[1]) for w in model.seen(v))
    left, right = plain_forcing(model, v, a[1]), plain_forcing(model, v, a[2])
    return {"and": left and right, "or": left or right}[a[0]]


class Making(unittest.TestCase):
    def test_what_a_model_tells(self):
        model = Model((3, ((0, 1), (0, 2), (2, 2))), {"p": [2, 0, 2, 0], "q": [], "r": [1]})
        self.assertEqual(model.frame(), (3, ((0, 1), (0, 2), (2, 2))))
        self.assertEqual(model.true_worlds(), {"p": [0, 2], "r": [1]})
        self.assertEqual([model.seen(v) for v in range(3)], [[1, 2], [], [2]])

    def test_many_worlds(self):
        worlds = [5000, 8, 4097, 17, 33, 8, 16, 0, 100, 5000]
        model = Model((6000, tuple((3, w) for w in sorted(set(worlds)))), {"p": worlds})
        self.assertEqual(model.true_worlds(), {"p": [0, 8, 16, 17, 33, 100, 4097, 5000]})
        self.assertEqual(model.seen(3), [0, 8, 16, 17, 33, 100, 4097, 5000])
        self.assertEqual(truth(model, neg(box(P))), [])

    def test_no_values(self):
        model = Model((1, ()), {})
        self.assertEqual(model.frame(), (1, ()))
        self.assertEqual(model.true_worlds(), {})
        self.assertEqual(model.seen(0), [])
        self.assertEqual(Model((1, ()), {"p": [], "q": []}).true_worlds(), {})

    def test_kinds(self):
        model = Model((2, ((0, 1),)), {"p": [1, 1]})
        self.assertIs(type(model.frame()), tuple)
        self.assertIs(type(model.true_worlds()), dict)
        self.assertIs(type(model.true_worlds()["p"]), list)
        self.assertIs(type(model.seen(0)), list)

    def refuses(self, frame, values):
        with self.assertRaises(InvalidModel) as caught:
            Model(frame, values)
        self.assertEqual(type(caught.exception).__bases__, (ElsewhereError,))

    def test_frames_that_are_none(self):
        for frame in ((0, ()), (-1, ()), (2, ((0, 2),)), (2, ((0, -1),)), (2, ((0, 1), (0, 1))), (2, ((1, 0), (0, 1)))):
            self.refuses(frame, {})

    def test_worlds_that_do_not_exist(self):
        for worlds in ([2], [-1], [0, 1, 2], [0, -2, 1], [10 ** 30]):
            self.refuses((2, ()), {"p": worlds})
            self.refuses((2, ()), {"q": [0], "p": worlds})
        self.refuses((1, ()), {"p": [0], "q": [1]})

    def test_the_arguments_stay_and_may_be_changed(self):
        worlds = [1, 0, 1]
        values = {"p": worlds, "q": []}
        model = Model((2, ()), values)
        self.assertEqual(values, {"p": [1, 0, 1], "q": []})
        worlds.clear()
        values["r"] = [0]
        values["q"].append(1)
        self.assertEqual(model.true_worlds(), {"p": [0, 1]})

    def test_the_answers_may_be_changed(self):
        model = Model((2, ((0, 1),)), {"p": [1]})
        told_worlds = model.true_worlds()
        told_worlds["p"].append(0)
        told_worlds["q"] = [0]
        model.seen(0).clear()
        model.seen(1).append(0)
        self.assertEqual(told(model), ((2, ((0, 1),)), {"p": [1]}, [[1], []]))
        self.assertEqual(truth(model, P), [1])


class Truth(unittest.TestCase):
    MODEL = Model((4, ((0, 1), (0, 2), (1, 1), (2, 3))), {"p": [1, 3], "q": [0, 1]})

    def is_true_at(self, a, worlds):
        self.assertEqual(truth(self.MODEL, a), worlds)

    def test_each_kind_of_formula(self):
        self.is_true_at(P, [1, 3])
        self.is_true_at(R, [])
        self.is_true_at(F, [])
        self.is_true_at(T, [0, 1, 2, 3])
        self.is_true_at(land(P, Q), [1])
        self.is_true_at(lor(P, Q), [0, 1, 3])
        self.is_true_at(to(P, Q), [0, 1, 2])
        self.is_true_at(to(Q, P), [1, 2, 3])
        self.is_true_at(neg(Q), [2, 3])

    def test_boxes(self):
        self.is_true_at(box(P), [1, 2, 3])
        self.is_true_at(box(Q), [1, 3])
        self.is_true_at(box(box(P)), [0, 1, 2, 3])
        self.is_true_at(box(F), [3])
        self.is_true_at(dia(T), [0, 1, 2])
        self.is_true_at(dia(P), [0, 1, 2])
        self.is_true_at(dia(box(F)), [2])

    def test_all_lists_are_new(self):
        for of in (truth, forcing):
            first = of(self.MODEL, P)
            self.assertIs(type(first), list)
            first.clear()
            self.assertEqual(of(self.MODEL, P), [1, 3])

    def test_as_by_a_plain_walk(self):
        dice = Dice(6)
        for k in range(150):
            model = mixed_model(dice, 1 + k % 6, "pqr")
            a = mixed_formula(dice, 6)
            worlds = [v for v in range(1 + k % 6) if plain_truth(model, v, a)]
            self.assertEqual(truth(model, a), worlds)

    def test_high_formulas(self):
        self.is_true_at(tower(box, 59), [0, 1, 2, 3])
        self.is_true_at(tower(dia, 19), [0, 1])
        # p <-> p is true, and (p <-> p) <-> p is p again.
        self.is_true_at(doubled_tower(28), [1, 3])
        self.is_true_at(doubled_tower(29), [0, 1, 2, 3])


class Forcing(unittest.TestCase):
    MODEL = Model((3, ((0, 0), (0, 1), (0, 2), (1, 1), (2, 2))), {"p": [1], "q": [1, 2]})

    def is_forced_at(self, a, worlds):
        self.assertEqual(forcing(self.MODEL, a), worlds)

    def test_each_kind_of_formula(self):
        self.is_forced_at(P, [1])
        self.is_forced_at(R, [])
        self.is_forced_at(F, [])
        self.is_forced_at(T, [0, 1, 2])
        self.is_forced_at(land(P, Q), [1])
        self.is_forced_at(lor(P, Q), [1, 2])
        self.is_forced_at(to(P, Q), [0, 1, 2])
        self.is_forced_at(to(Q, P), [1])
        self.is_forced_at(neg(P), [2])
        self.is_forced_at(neg(neg(P)), [1])
        self.is_forced_at(lor(P, neg(P)), [1, 2])
        self.is_forced_at(neg(neg(Q)), [0, 1, 2])

    def test_only_the_worlds_that_are_seen_count(self):
        model = Model((3, ((0, 1), (1, 1))), {"p": [0, 2]})
        self.assertEqual(forcing(model, to(P, Q)), [0, 1, 2])
        self.assertEqual(forcing(model, neg(to(Q, Q))), [2])

    def test_boxes_are_refused(self):
        for a in (box(P), to(P, box(F)), to(box(P), P), land(P, box(Q)), lor(box(P), T), neg(neg(box(T))),
                  land(F, to(F, to(F, box(P))))):
            self.assertFalse(is_plain(a))
            with self.assertRaises(NotPlain) as caught:
                forcing(self.MODEL, a)
            self.assertEqual(type(caught.exception).__bases__, (ElsewhereError,))

    def test_as_by_a_plain_walk(self):
        dice = Dice(7)
        for k in range(150):
            worlds = 1 + k % 6
            model = (mixed_model, mixed_order)[k % 2](dice, worlds, "pqr")
            a = mixed_formula(dice, 6, plain=True)
            self.assertEqual(forcing(model, a), [v for v in range(worlds) if plain_forcing(model, v, a)])

    def test_high_formulas(self):
        self.is_forced_at(tower(neg, 58), [1])
        self.is_forced_at(tower(neg, 59), [2])
        self.is_forced_at(doubled_tower(29), [0, 1, 2])


class Generated(unittest.TestCase):
    MODEL = Model((5, ((0, 0), (1, 3), (2, 1), (3, 0), (3, 3))), {"p": [0, 2], "q": [3, 4], "r": [4]})

    def test_from_each_world(self):
        frames = [generated(self.MODEL, v).frame() for v in range(5)]
        self.assertEqual(frames, [
            (1, ((0, 0),)),
            (3, ((0, 2), (1, 1), (2, 1), (2, 2))),
            (4, ((0, 2), (1, 1), (2, 3), (3, 1), (3, 3))),
            (2, ((0, 0), (0, 1), (1, 1))),
            (1, ()),
        ])
        values = [generated(self.MODEL, v).true_worlds() for v in range(5)]
        self.assertEqual(values, [
            {"p": [0]}, {"p": [1], "q": [2]}, {"p": [0, 1], "q": [3]}, {"p": [1], "q": [0]}, {"q": [0], "r": [0]},
        ])

    def test_the_model_stays(self):
        before = told(self.MODEL)
        generated(self.MODEL, 3)
        self.assertEqual(told(self.MODEL), before)

    def test_circles(self):
        model = Model((3, ((0, 1), (1, 2), (2, 0))), {"p": [0]})
        self.assertEqual(told(generated(model, 1)), ((3, ((0, 2), (1, 0), (2, 1))), {"p": [1]}, [[2], [0], [1]]))

    def test_truth_stays(self):
        dice = Dice(8)
        formulas = [mixed_formula(dice, 5) for _ in range(30)]
        for k in range(20):
            model = mixed_model(dice, 5, "pqr")
            for v in range(5):
                part = generated(model, v)
                self.assertTrue(all((0 in truth(part, a)) == (v in truth(model, a)) for a in formulas))


class Disjoint(unittest.TestCase):
    def test_two_models(self):
        first = Model((2, ((0, 1), (1, 1))), {"p": [0], "q": [1]})
        second = Model((3, ((0, 2), (2, 0))), {"p": [0, 2], "r": [1]})
        before = told(first), told(second)
        both = disjoint(first, second)
        self.assertEqual(both.frame(), (5, ((0, 1), (1, 1), (2, 4), (4, 2))))
        self.assertEqual(both.true_worlds(), {"p": [0, 2, 4], "q": [1], "r": [3]})
        turned = disjoint(second, first)
        self.assertEqual(turned.frame(), (5, ((0, 2), (2, 0), (3, 4), (4, 4))))
        self.assertEqual(turned.true_worlds(), {"p": [0, 2, 3], "q": [4], "r": [1]})
        self.assertEqual((told(first), told(second)), before)

    def test_a_model_with_itself(self):
        model = chain(2, {"p": [1]})
        self.assertEqual(told(disjoint(model, model)), ((4, ((0, 1), (2, 3))), {"p": [1, 3]}, [[1], [], [3], []]))

    def test_truth_stays(self):
        first, second = chain(3, {"p": [2]}), chain(2, {"p": [0], "q": [1]})
        both = disjoint(first, second)
        for a in small_formulas(1) + [box(box(F)), dia(dia(P)), box(Q)]:
            self.assertEqual(truth(both, a), truth(first, a) + [v + 3 for v in truth(second, a)])
