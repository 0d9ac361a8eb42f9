import unittest

from elsewhere.decision import decide_formula
from elsewhere.errors import NotPlain, WrongFrame
from elsewhere.formula import dia, height, is_plain, neg, verum
from elsewhere.logics import MODAL, is_frame_of, is_model_of
from elsewhere.model import Model, forcing, truth
from elsewhere.text import parse, show
from elsewhere.translations import (
    at_blind, at_reflexive, blind_copy, box_translation, double_negation, seeing_copy, skeleton, strong_boxes,
)
from tests.samples import (
    F, P, Q, R, Dice, box, boxed_formula, doubled_tower, frames, land, lor, mixed_formula, mixed_model_of, order, to,
    told, tower,
)


def valid(logic, a):
    return decide_formula(logic, a).is_valid()


def plain_translation(a):
    """The rules of box_translation, word for word."""
    if a[0] == "var":
        return box(a)
    if a[0] == "falsum":
        return a
    parts = (plain_translation(a[1]), plain_translation(a[2]))
    return box(("implies", *parts)) if a[0] == "implies" else (a[0], *parts)


def plain_strong(a):
    if a[0] in ("var", "falsum"):
        return a
    if a[0] == "box":
        b = plain_strong(a[1])
        return land(b, box(b))
    return (a[0], plain_strong(a[1]), plain_strong(a[2]))


def plain_double(a):
    if a[0] == "var":
        return neg(neg(a))
    if a[0] == "falsum":
        return a
    c, d = plain_double(a[1]), plain_double(a[2])
    return neg(land(neg(c), neg(d))) if a[0] == "or" else (a[0], c, d)


def plain_at(a, blind):
    if a[0] in ("var", "falsum"):
        return a
    if a[0] == "box":
        return verum() if blind else plain_at(a[1], blind)
    return (a[0], plain_at(a[1], blind), plain_at(a[2], blind))


class Formulas(unittest.TestCase):
    def test_box_translation(self):
        for text, wanted in (
            ("p", "[]p"), ("F", "F"), ("p & q", "[]p & []q"), ("p | F", "[]p | F"), ("p -> q", "[]([]p -> []q)"),
            ("~p", "[]~[]p"), ("T", "[]T"), ("p -> q -> r", "[]([]p -> []([]q -> []r))"),
            ("(p | q) & ~~r", "([]p | []q) & []~[]~[]r"),
        ):
            self.assertEqual(box_translation(parse(text)), parse(wanted))

    def test_strong_boxes(self):
        for text, wanted in (
            ("p", "p"), ("F", "F"), ("[]p", "p & []p"), ("[]p -> q", "p & []p -> q"),
            ("[][]p", "(p & []p) & [](p & []p)"), ("~[]F | [](p & []q)", "~(F & []F) | (p & (q & []q)) & [](p & (q & []q))"),
        ):
            self.assertEqual(strong_boxes(parse(text)), parse(wanted))

    def test_double_negation(self):
        for text, wanted in (
            ("p", "~~p"), ("F", "F"), ("p & F", "~~p & F"), ("p -> q", "~~p -> ~~q"), ("p | q", "~(~~~p & ~~~q)"),
            ("~p", "~~~p"), ("T", "T"), ("p | (q | F)", "~(~~~p & ~~(~~~q & ~F))"),
        ):
            self.assertEqual(double_negation(parse(text)), parse(wanted))

    def test_at_reflexive_and_at_blind(self):
        for text, reflexive, blind in (
            ("p", "p", "p"), ("F", "F", "F"), ("[]p", "p", "T"), ("[][]p", "p", "T"), ("[]p -> q", "p -> q", "T -> q"),
            ("~[]~p", "~~p", "~T"), ("p & [](q | []r)", "p & (q | r)", "p & T"), ("[]F", "F", "T"),
        ):
            self.assertEqual(at_reflexive(parse(text)), parse(reflexive))
            self.assertEqual(at_blind(parse(text)), parse(blind))

    def test_by_the_rules(self):
        dice = Dice(81)
        for _ in range(150):
            a, b = mixed_formula(dice, 5), mixed_formula(dice, 5, plain=True)
            self.assertEqual(strong_boxes(a), plain_strong(a))
            self.assertEqual(at_reflexive(a), plain_at(a, False))
            self.assertEqual(at_blind(a), plain_at(a, True))
            self.assertTrue(is_plain(at_reflexive(a)) and is_plain(at_blind(a)))
            self.assertEqual(box_translation(b), plain_translation(b))
            self.assertEqual(double_negation(b), plain_double(b))
            self.assertEqual((strong_boxes(b), at_reflexive(b), at_blind(b)), (b, b, b))

    def test_not_plain(self):
        for a in (box(P), neg(box(F)), land(P, to(Q, lor(R, box(box(P))))), tower(neg, 50, box(P))):
            for call in (box_translation, double_negation):
                with self.assertRaises(NotPlain):
                    call(a)

    def test_great_formulas(self):
        a = doubled_tower(10)
        self.assertEqual(at_reflexive(box_translation(a)), a)
        # These stand for more than a thousand million parts.
        self.assertEqual(height(at_reflexive(box_translation(doubled_tower(29)))), 59)
        self.assertEqual(height(double_negation(doubled_tower(29))), 61)
        high = tower(box, 59)
        self.assertEqual(at_reflexive(high), P)
        self.assertEqual(at_blind(high), verum())
        self.assertEqual(strong_boxes(tower(box, 3)), plain_strong(tower(box, 3)))


class Answers(unittest.TestCase):
    def test_plain_formulas(self):
        dice = Dice(82)
        met = []
        for k in range(150):
            a = mixed_formula(dice, 3 + k % 2, plain=True)
            b = box_translation(a)
            met.append((valid("Int", a), valid("Cl", a)))
            self.assertEqual(valid("S4", b), met[-1][0], show(a))
            self.assertEqual(valid("Grz", b), met[-1][0], show(a))
            self.assertEqual(valid("S5", b), met[-1][1], show(a))
            self.assertEqual(valid("Int", double_negation(a)), met[-1][1], show(a))
            self.assertEqual(valid("Int", neg(neg(a))), met[-1][1], show(a))
        for told_apart in ((True, True), (False, True), (False, False)):
            self.assertIn(told_apart, met)

    def test_laws_of_other_logics(self):
        for text in ("p | ~p", "~p | ~~p", "(p -> q) | (q -> p)", "((p -> q) -> p) -> p", "~~(p | ~p)", "~(p & q) -> ~p | ~q"):
            a = parse(text)
            for logic in ("S4", "Grz"):
                self.assertEqual(valid(logic, box_translation(a)), valid("Int", a))
            self.assertTrue(valid("S5", box_translation(a)))
            self.assertTrue(valid("Int", double_negation(a)))

    def test_strong_boxes(self):
        dice = Dice(83)
        met = []
        drawn = [mixed_formula(dice, 4) for _ in range(60)] + [boxed_formula(dice, 5) for _ in range(60)]
        laws = ["[]([](p -> []p) -> p) -> p", "[]p -> p", "[]p -> [][]p", "[]([]p -> p) -> []p", "p -> []<>p", "[]<>p -> <>[]p"]
        for a in drawn + [parse(text) for text in laws]:
            met.append(valid("Grz", a))
            self.assertEqual(valid("GL", strong_boxes(a)), met[-1], show(a))
        self.assertGreater(min(met.count(True), met.count(False)), 10)

    def test_single_worlds(self):
        dice = Dice(84)
        met = {}
        for k in range(150):
            a = mixed_formula(dice, 4) if k % 2 else boxed_formula(dice, 4)
            for logic in MODAL:
                if valid(logic, a):
                    met[logic] = met.get(logic, 0) + 1
                    if logic != "GL":
                        self.assertTrue(valid("Cl", at_reflexive(a)), (logic, show(a)))
                    if logic in ("K", "K4", "GL"):
                        self.assertTrue(valid("Cl", at_blind(a)), (logic, show(a)))
        self.assertGreater(min(met[logic] for logic in MODAL), 10)


class Skeletons(unittest.TestCase):
    def test_clusters(self):
        frame = (4, ((0, 0), (0, 1), (0, 2), (0, 3), (1, 1), (1, 3), (2, 0), (2, 1), (2, 2), (2, 3), (3, 1), (3, 3)))
        self.assertTrue(is_frame_of("S4", frame))
        small, classes = skeleton(Model(frame, {"p": [0, 1, 3], "q": [0, 1, 2, 3], "r": [1], "s": [3, 1]}))
        self.assertEqual(classes, [0, 1, 0, 1])
        self.assertEqual(small.frame(), (2, ((0, 0), (0, 1), (1, 1))))
        self.assertEqual(small.true_worlds(), {"p": [1], "q": [0, 1], "s": [1]})

    def test_one_cluster(self):
        whole = Model((3, tuple((v, w) for v in range(3) for w in range(3))), {"p": [0, 1, 2], "q": [1]})
        small, classes = skeleton(whole)
        self.assertEqual((small.frame(), small.true_worlds(), classes), ((1, ((0, 0),)), {"p": [0]}, [0, 0, 0]))

    def test_numbers_by_least_members(self):
        # The sets are {0, 3}, {1}, {2, 4}.
        pairs = [(v, v) for v in range(5)] + [(0, 3), (3, 0), (2, 4), (4, 2), (1, 0), (1, 3)]
        small, classes = skeleton(Model((5, tuple(sorted(pairs))), {"p": [0, 3], "q": [0, 1, 3]}))
        self.assertEqual(classes, [0, 1, 2, 0, 2])
        self.assertEqual(small.frame(), (3, ((0, 0), (1, 0), (1, 1), (2, 2))))
        self.assertEqual(small.true_worlds(), {"p": [0], "q": [0, 1]})

    def test_a_model_of_int_is_its_own_skeleton(self):
        dice = Dice(85)
        for k in range(30):
            model = mixed_model_of(dice, "Int", 1 + k % 5)
            small, classes = skeleton(model)
            self.assertEqual(told(small), told(model))
            self.assertEqual(classes, list(range(model.frame()[0])))

    def test_forcing_is_truth_of_the_translation(self):
        dice = Dice(86)
        for k in range(120):
            model = mixed_model_of(dice, "S4", 1 + k % 6, "pqr")
            before = told(model)
            small, classes = skeleton(model)
            self.assertEqual(told(model), before)
            self.assertIs(type(classes), list)
            self.assertTrue(is_model_of("Int", small))
            for _ in range(4):
                a = mixed_formula(dice, 4, plain=True)
                forced = forcing(small, a)
                self.assertEqual([v for v, k in enumerate(classes) if k in forced], truth(model, box_translation(a)))

    def test_translations_in_models_of_intermediate_logics(self):
        dice = Dice(87)
        for logic in ("Int", "KC", "LC", "BD2", "HT", "Cl"):
            for k in range(25):
                model = mixed_model_of(dice, logic, 1 + k % 5, "pqr")
                a = mixed_formula(dice, 5, plain=True)
                self.assertEqual(forcing(model, a), truth(model, box_translation(a)))

    def test_wrong_frames(self):
        for worlds in (1, 2):
            for frame in frames(worlds):
                for logic, call in (("S4", skeleton), ("Grz", blind_copy), ("GL", seeing_copy)):
                    model = Model(frame, {"p": [0]})
                    if is_frame_of(logic, frame):
                        call(model)
                    else:
                        with self.assertRaises(WrongFrame, msg=(frame, logic)):
                            call(model)
        for frame in ((3, ((0, 1), (1, 2))), (3, ((0, 0), (0, 1), (1, 1), (1, 2), (2, 2)))):
            for call in (skeleton, blind_copy, seeing_copy):
                with self.assertRaises(WrongFrame):
                    call(Model(frame, {}))


class Copies(unittest.TestCase):
    def test_there_and_back(self):
        seeing = Model(order([1, 2], [], []), {"p": [0, 2]})
        blind = Model((3, ((0, 1), (0, 2))), {"p": [0, 2]})
        self.assertEqual(told(blind_copy(seeing)), told(blind))
        self.assertEqual(told(seeing_copy(blind)), told(seeing))
        dice = Dice(88)
        for k in range(60):
            model = mixed_model_of(dice, "Grz", 1 + k % 6)
            before = told(model)
            copy = blind_copy(model)
            self.assertTrue(is_frame_of("GL", copy.frame()))
            self.assertEqual(told(seeing_copy(copy)), before)
            self.assertEqual(told(model), before)
            model = mixed_model_of(dice, "GL", 1 + k % 6)
            copy = seeing_copy(model)
            self.assertTrue(is_frame_of("Grz", copy.frame()))
            self.assertEqual(told(blind_copy(copy)), told(model))

    def test_truth(self):
        dice = Dice(89)
        for k in range(100):
            model = mixed_model_of(dice, "Grz", 1 + k % 6)
            for a in (mixed_formula(dice, 5), boxed_formula(dice, 5), dia(box(P))):
                self.assertEqual(truth(blind_copy(model), strong_boxes(a)), truth(model, a))
