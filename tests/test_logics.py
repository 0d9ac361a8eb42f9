import unittest

from elsewhere.errors import ElsewhereError, NotPlain, UnknownLogic
from elsewhere.formula import neg
from elsewhere.logics import INTERMEDIATE, MODAL, holds, is_frame_of, is_model_of
from elsewhere.model import Model, forcing, truth
from tests.samples import Dice, P, Q, box, chain, frames, lor, mixed_formula, mixed_model, mixed_order, order, to

NO_LOGICS = (
    "", " ", "k", "S3", "K4 ", " K", "gl", "GRZ", "grz", "INT", "int", "BD1", "BD3", "ht", "CL", "S", "S45", "K,D", "KK",
    "Kc", "Intuitionistic", "K\n",
)


def conditions(frame):
    """The dict from each logic to whether its condition holds, as the document words it."""
    worlds, pairs = frame
    every = range(worlds)
    sees = set(pairs)
    serial = all(any((v, w) in sees for w in every) for v in every)
    reflexive = all((v, v) in sees for v in every)
    transitive = all((u, w) in sees for u, v in sees for x, w in sees if x == v)
    symmetric = all((w, v) in sees for v, w in sees)
    order = transitive and reflexive and not any(v != w and (w, v) in sees for v, w in sees)
    forks = [(v, w) for u in every for v in every for w in every if (u, v) in sees and (u, w) in sees]
    directed = order and all(any((v, x) in sees and (w, x) in sees for x in every) for v, w in forks)
    linear = order and all((v, w) in sees or (w, v) in sees for v, w in forks)
    shallow = order and not any(
        u != v and v != w and u != w and (u, v) in sees and (v, w) in sees
        for u in every for v in every for w in every
    )
    return {
        "K": True, "D": serial, "T": reflexive, "K4": transitive, "D4": transitive and serial,
        "S4": transitive and reflexive, "S5": transitive and reflexive and symmetric,
        "GL": transitive and not any((v, v) in sees for v in every), "Grz": order, "Int": order, "KC": directed,
        "LC": linear, "BD2": shallow, "HT": linear and shallow,
        "Cl": order and not any(v != w for v, w in sees),
    }


class Frames(unittest.TestCase):
    def is_of(self, frame, names):
        found = [logic for logic in MODAL + INTERMEDIATE if is_frame_of(logic, frame)]
        self.assertEqual(found, names.split(), frame)

    def test_names(self):
        self.assertEqual(MODAL, ("K", "D", "T", "K4", "D4", "S4", "S5", "GL", "Grz"))
        self.assertEqual(INTERMEDIATE, ("Int", "KC", "LC", "BD2", "HT", "Cl"))

    def test_single_worlds(self):
        self.is_of((1, ()), "K K4 GL")
        self.is_of((1, ((0, 0),)), "K D T K4 D4 S4 S5 Grz Int KC LC BD2 HT Cl")

    def test_two_worlds(self):
        self.is_of((2, ((0, 1),)), "K K4 GL")
        self.is_of((2, ((0, 1), (1, 0))), "K D")
        self.is_of((2, ((0, 1), (1, 1))), "K D K4 D4")
        self.is_of((2, ((0, 0), (0, 1), (1, 0), (1, 1))), "K D T K4 D4 S4 S5")
        self.is_of(order([1], []), "K D T K4 D4 S4 Grz Int KC LC BD2 HT")
        self.is_of(order([], []), "K D T K4 D4 S4 S5 Grz Int KC LC BD2 HT Cl")

    def test_each_part_alone(self):
        self.is_of((3, ((0, 1), (1, 2))), "K")
        self.is_of((3, ((0, 1), (1, 2), (2, 2))), "K D")
        self.is_of((3, ((0, 0), (0, 1), (1, 1), (1, 2), (2, 2))), "K D T")
        self.is_of((3, ((0, 0), (0, 1), (0, 2), (1, 0), (1, 1), (2, 0), (2, 2))), "K D T")
        self.is_of((3, ((0, 1), (0, 2), (1, 2))), "K K4 GL")
        self.is_of((2, ((0, 0), (0, 1))), "K K4")
        self.is_of((3, ((0, 0), (0, 1), (0, 2), (1, 1), (1, 2), (2, 1), (2, 2))), "K D T K4 D4 S4")

    def test_orders(self):
        self.is_of(order([1, 2], [], []), "K D T K4 D4 S4 Grz Int BD2")
        self.is_of(order([1], [2], []), "K D T K4 D4 S4 Grz Int KC LC")
        self.is_of(order([1, 2], [3], [3], []), "K D T K4 D4 S4 Grz Int KC")
        self.is_of(order([1], [2, 3], [], []), "K D T K4 D4 S4 Grz Int")
        self.is_of(order([1, 2], [3], [4], [], []), "K D T K4 D4 S4 Grz Int")
        self.is_of(order([2], [2], []), "K D T K4 D4 S4 Grz Int KC LC BD2 HT")
        self.is_of(order([1], [], [3, 4], [], []), "K D T K4 D4 S4 Grz Int BD2")
        self.is_of(order([1], [2], [], []), "K D T K4 D4 S4 Grz Int KC LC")

    def test_all_small_frames(self):
        for worlds in (1, 2, 3):
            for frame in frames(worlds):
                found = {logic: is_frame_of(logic, frame) for logic in MODAL + INTERMEDIATE}
                self.assertEqual(found, conditions(frame), frame)
                self.assertTrue(all(type(answer) is bool for answer in found.values()))

    def test_mixed_orders(self):
        dice = Dice(9)
        for k in range(150):
            frame = mixed_order(dice, 4 + k % 4).frame()
            self.assertEqual({logic: is_frame_of(logic, frame) for logic in MODAL + INTERMEDIATE}, conditions(frame))

    def test_great_frames(self):
        chain_order = order(*[[v + 1] for v in range(59)], [])
        self.is_of(chain_order, "K D T K4 D4 S4 Grz Int KC LC")
        self.is_of((10 ** 20, ()), "K K4 GL")

    def test_unknown_names(self):
        for name in NO_LOGICS:
            for call in (
                lambda: is_frame_of(name, (1, ())), lambda: is_model_of(name, chain(1)), lambda: holds(name, chain(1), P),
                lambda: holds(name, chain(1), box(P)),
            ):
                with self.assertRaises(UnknownLogic, msg=name) as caught:
                    call()
                self.assertEqual(type(caught.exception).__bases__, (ElsewhereError,))


class Models(unittest.TestCase):
    def test_variables_have_to_stay_true(self):
        frame = order([1], [])
        upward = Model(frame, {"p": [1], "q": [0, 1]})
        downward = Model(frame, {"q": [0, 1], "p": [0]})
        for logic in ("K", "T", "S4", "Grz"):
            self.assertIs(is_model_of(logic, upward), True)
            self.assertIs(is_model_of(logic, downward), True)
        for logic in ("Int", "KC", "LC", "BD2", "HT"):
            self.assertIs(is_model_of(logic, upward), True)
            self.assertIs(is_model_of(logic, downward), False)
        flat = Model(order([], []), {"p": [0]})
        for logic in INTERMEDIATE:
            self.assertIs(is_model_of(logic, flat), True)

    def test_the_frame_counts(self):
        for logic in INTERMEDIATE + ("T", "D", "S4", "Grz"):
            self.assertIs(is_model_of(logic, chain(2)), False)
        for logic in ("K", "K4", "GL"):
            self.assertIs(is_model_of(logic, chain(2)), True)
        fork = Model(order([1, 2], [], []), {"p": [1]})
        found = [logic for logic in MODAL + INTERMEDIATE if is_model_of(logic, fork)]
        self.assertEqual(found, ["K", "D", "T", "K4", "D4", "S4", "Grz", "Int", "BD2"])

    def test_forced_formulas_stay_forced(self):
        dice = Dice(10)
        for k in range(100):
            model = mixed_order(dice, 2 + k % 5, "pqr")
            self.assertIs(is_model_of("Int", model), True)
            worlds = forcing(model, mixed_formula(dice, 6, plain=True))
            self.assertTrue(all(w in worlds for v in worlds for w in model.seen(v)))


class Holds(unittest.TestCase):
    MODEL = Model(order([1], []), {"p": [1]})

    def test_truth_or_forcing(self):
        a = lor(P, neg(P))
        for logic in MODAL:
            self.assertEqual(holds(logic, self.MODEL, a), [0, 1])
            self.assertEqual(holds(logic, self.MODEL, box(P)), [1])
        for logic in INTERMEDIATE:
            self.assertEqual(holds(logic, self.MODEL, a), [1])

    def test_boxes(self):
        for logic in INTERMEDIATE:
            for a in (box(P), to(P, box(Q))):
                with self.assertRaises(NotPlain) as caught:
                    holds(logic, self.MODEL, a)
                self.assertEqual(type(caught.exception).__bases__, (ElsewhereError,))

    def test_as_truth_and_forcing(self):
        dice = Dice(11)
        for _ in range(30):
            model, a, b = mixed_model(dice, 4), mixed_formula(dice, 5), mixed_formula(dice, 5, plain=True)
            for logic in MODAL:
                self.assertEqual(holds(logic, model, a), truth(model, a))
            for logic in INTERMEDIATE:
                self.assertEqual(holds(logic, model, b), forcing(model, b))

    def test_each_list_is_new(self):
        for logic in ("K", "Int"):
            holds(logic, self.MODEL, P).clear()
            self.assertEqual(holds(logic, self.MODEL, P), [1])
