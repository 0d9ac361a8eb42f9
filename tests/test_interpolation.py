import unittest

from elsewhere.decision import decide, equivalent
from elsewhere.derivation import derives, pruned
from elsewhere.errors import NoInterpolants, NotPlain, NotValid, UnknownLogic
from elsewhere.formula import dia, height, iff, neg, subformulas, variables, verum
from elsewhere.interpolation import interpolant, simplified
from elsewhere.logics import INTERMEDIATE, MODAL
from elsewhere.model import forcing, truth
from elsewhere.text import parse, show
from tests.samples import (
    F, P, Q, R, T, Dice, box, doubled_tower, land, lor, mixed_formula, mixed_model, mixed_order, small_formulas, to,
    tower,
)

ALL = MODAL + INTERMEDIATE
LOGICS = ("K", "D", "T", "K4", "D4", "S4", "GL", "Grz", "Cl")
OTHERS = ("S5", "Int", "KC", "LC", "BD2", "HT")
S = ("var", "s")


def drawn(dice, height, names, plain):
    """A formula with some of the names and, unless it is plain, with many boxes."""
    kind = dice.below(6 if plain else 9)
    if height == 1 or kind == 0:
        return [*[("var", name) for name in names], F][dice.below(len(names) + 1)]
    first = drawn(dice, height - 1, names, plain)
    if kind > 6:
        return box(first)
    if kind == 6:
        return dia(first)
    if kind == 5:
        return neg(first)
    return (("and", "or", "implies", "implies")[kind - 1], first, drawn(dice, height - 1, names, plain))


class Case(unittest.TestCase):
    def interpolates(self, logic, a, b):
        found = interpolant(logic, a, b)
        self.assertIs(type(found), tuple)
        c, first, second = found
        words = (logic, show(a), show(b), show(c))
        self.assertIs(type(first), list)
        self.assertIs(type(second), list)
        self.assertTrue(derives(logic, first, ((a,), (c,))), words)
        self.assertTrue(derives(logic, second, ((c,), (b,))), words)
        self.assertLessEqual(set(variables(c)), set(variables(a)) & set(variables(b)), words)
        return c


class Interpolants(Case):
    def test_simple_ones(self):
        for logic in LOGICS:
            self.assertEqual(self.interpolates(logic, P, P), P)
            self.assertEqual(self.interpolates(logic, land(P, Q), lor(P, R)), P)
            self.assertEqual(variables(self.interpolates(logic, land(to(P, Q), P), lor(Q, R))), ["q"])
            self.assertEqual(variables(self.interpolates(logic, neg(lor(P, Q)), to(P, R))), ["p"])

    def test_valid_alone_and_never_true(self):
        for logic in LOGICS:
            for a in (Q, verum(), lor(Q, neg(Q)), land(Q, P)):
                for b in (to(P, P), verum(), lor(R, neg(R))):
                    self.interpolates(logic, a, b)
            for a in (F, land(P, neg(P)), neg(verum())):
                for b in (Q, F, R, to(P, P)):
                    self.interpolates(logic, a, b)
            self.assertEqual(variables(self.interpolates(logic, land(P, neg(P)), Q)), [])
            self.assertEqual(variables(self.interpolates(logic, P, lor(Q, neg(Q)))), [])

    def test_variables_of_one_side_only(self):
        for logic in LOGICS:
            a = land(lor(P, Q), land(to(P, R), to(Q, R)))
            b = lor(land(R, S), lor(land(R, neg(S)), neg(R)))
            self.interpolates(logic, a, b)
            self.assertEqual(variables(self.interpolates(logic, a, lor(R, S))), ["r"])

    def test_boxes(self):
        for text, others, logics in (
            ("[](p & q)", "[](p | r)", LOGICS[:-1]),
            ("<>(p & q)", "<>(p | r)", LOGICS[:-1]),
            ("[]p & <>q", "<>(p | r)", LOGICS[:-1]),
            ("[](p & q) & <>r", "<>p | s", LOGICS[:-1]),
            ("[]p & q", "<>p | r", ("D", "T", "D4", "S4", "Grz")),
            ("[]F & p", "q", ("D", "T", "D4", "S4", "Grz")),
            ("[]~p & []p & q", "r", ("D", "T", "D4", "S4", "Grz")),
            ("[]p & q", "p | r", ("T", "S4", "Grz")),
            ("p & ~q", "<>p | r", ("T", "S4", "Grz")),
            ("[]p & q", "[][]p | r", ("K4", "D4", "S4", "GL", "Grz")),
            ("<><>p & q", "<>p | r", ("K4", "D4", "S4", "GL", "Grz")),
            ("[](p & q)", "[][](p | r)", ("K4", "D4", "S4", "GL", "Grz")),
            ("[]([]p -> p) & q", "[]p | r", ("GL",)),
            ("[]([]p -> p) & [](p -> q)", "[][](q | r)", ("GL",)),
            ("<>(p & q)", "<>(p & ~<>p) | r", ("GL",)),
            ("[]([](p -> []p) -> p) & q", "p | r", ("Grz",)),
            ("[]<>(p & q)", "<>[]p | <>[](p | r)", ("Grz",)),
            ("q", "[](p -> p)", LOGICS[:-1]),
            ("<>(p & ~p)", "q", LOGICS[:-1]),
            ("<>p", "<>T | q", LOGICS[:-1]),
            ("q", "[]p -> []p", LOGICS[:-1]),
            ("<>p & []q", "[]F -> r", LOGICS[:-1]),
        ):
            for logic in LOGICS[:-1]:
                if logic in logics:
                    self.interpolates(logic, parse(text), parse(others))
                else:
                    with self.assertRaises(NotValid, msg=(logic, text)):
                        interpolant(logic, parse(text), parse(others))

    def test_drawn_formulas(self):
        dice = Dice(91)
        for logic in LOGICS:
            met = kinds = 0
            while met < 40:
                high = 3 + met % 3
                a, b = drawn(dice, high, "pqr", logic == "Cl"), drawn(dice, high, "pqs", logic == "Cl")
                if met % 2:
                    c, d = (drawn(dice, high, "pq", logic == "Cl") for _ in range(2))
                    a, b = land(a, land(c, to(c, d))), lor(land(c, d), b)
                if decide(logic, ((a,), (b,))).is_valid():
                    met += 1
                    kinds += bool(variables(self.interpolates(logic, a, b)))
            self.assertGreater(kinds, 3, logic)

    def test_pruned(self):
        dice = Dice(92)
        for logic in LOGICS:
            for _ in range(10):
                a = drawn(dice, 3, "pq", logic == "Cl")
                _, first, second = interpolant(logic, land(a, R), lor(a, S))
                self.assertEqual((pruned(first), pruned(second)), (first, second))

    def test_lists_are_new(self):
        for _ in range(2):
            c, first, second = interpolant("K", box(land(P, Q)), box(P))
            self.assertTrue(derives("K", first, ((box(land(P, Q)),), (c,))))
            first.clear()
            second.clear()

    def test_great_formulas(self):
        a = doubled_tower(8)
        for logic in LOGICS:
            self.interpolates(logic, land(a, Q), lor(R, a))


class Errors(Case):
    def test_unknown_logics(self):
        for logic in ("", "k", "S3", "K ", "cl", "INT"):
            for a, b in ((P, P), (P, Q), (box(P), P)):
                with self.assertRaises(UnknownLogic):
                    interpolant(logic, a, b)

    def test_logics_without_interpolants(self):
        for logic in OTHERS:
            for a, b in ((P, P), (P, Q), (box(P), P), (P, box(P))):
                with self.assertRaises(NoInterpolants):
                    interpolant(logic, a, b)

    def test_plain_formulas(self):
        for a, b in ((box(P), P), (P, box(P)), (box(P), box(P)), (land(P, box(Q)), P), (F, neg(box(P)))):
            with self.assertRaises(NotPlain):
                interpolant("Cl", a, b)

    def test_not_valid(self):
        for logic in LOGICS:
            for a, b in ((P, Q), (verum(), P), (P, F), (lor(P, Q), P), (P, land(P, Q))):
                with self.assertRaises(NotValid):
                    interpolant(logic, a, b)


class Simplified(unittest.TestCase):
    def test_each_rule(self):
        for text, wanted in (
            ("p & F", "F"), ("F & p", "F"), ("p & T", "p"), ("T & p", "p"), ("p & p", "p"), ("F & F", "F"), ("T & T", "T"),
            ("T & F", "F"), ("p | T", "T"), ("T | p", "T"), ("p | F", "p"), ("F | p", "p"), ("p | p", "p"), ("F | F", "F"),
            ("T | F", "T"), ("F -> p", "T"), ("p -> T", "T"), ("p -> p", "T"), ("T -> p", "p"), ("T -> T", "T"),
            ("T -> F", "F"), ("F -> T", "T"), ("[]T", "T"), ("F -> F", "T"),
            # Nothing is to be done.
            ("p", "p"), ("F", "F"), ("T", "T"), ("~p", "~p"), ("p & q", "p & q"), ("p | q", "p | q"), ("p -> q", "p -> q"),
            ("[]F", "[]F"), ("[]p", "[]p"), ("p & ~p", "p & ~p"), ("p | ~p", "p | ~p"), ("~~p", "~~p"), ("~[]F", "~[]F"),
            ("p & q & p", "p & q & p"),
            # From the inside to the outside.
            ("(p & T) | F", "p"), ("[](p -> p)", "T"), ("[][]T", "T"), ("~[]T", "F"), ("~~F", "F"), ("[]~T", "[]F"),
            ("(p & T) & (F | p)", "p"), ("(p | T) -> q", "q"), ("[](p & F) & q", "[]F & q"), ("(p & q) -> (p & q)", "T"),
            ("(p & (q | T)) -> (p | F)", "T"), ("~(F -> p)", "F"), ("[]p & [](p & T)", "[]p"), ("~(p -> F | F)", "~~p"),
        ):
            self.assertEqual(simplified(parse(text)), parse(wanted), text)

    def test_verum_stays(self):
        self.assertEqual(simplified(to(F, F)), ("implies", ("falsum",), ("falsum",)))
        self.assertEqual(simplified(T), verum())

    def test_twice_is_once(self):
        for a in small_formulas(2):
            b = simplified(a)
            self.assertEqual(simplified(b), b)

    def test_no_rule_fits_the_result(self):
        for a in small_formulas(2):
            for b in subformulas(simplified(a)):
                if b != verum() and b[0] in ("and", "or", "implies"):
                    self.assertNotEqual(b[1], b[2])
                    self.assertNotIn(verum(), b[1:])
                    self.assertNotEqual(b[1], F)
                    self.assertTrue(b[2] != F or b[0] == "implies")
                self.assertNotEqual(b, box(verum()))

    def test_truth_and_forcing_are_kept(self):
        dice = Dice(93)
        for k in range(150):
            a, b = mixed_formula(dice, 6), mixed_formula(dice, 6, plain=True)
            model, ordered = mixed_model(dice, 1 + k % 5, "pqr"), mixed_order(dice, 1 + k % 5, "pqr")
            self.assertEqual(truth(model, simplified(a)), truth(model, a))
            self.assertEqual(forcing(ordered, simplified(b)), forcing(ordered, b))

    def test_equivalent(self):
        dice = Dice(94)
        for _ in range(60):
            a, b = mixed_formula(dice, 5), mixed_formula(dice, 5, plain=True)
            self.assertTrue(equivalent("K", a, simplified(a)))
            self.assertTrue(equivalent("Int", b, simplified(b)))

    def test_great_formulas(self):
        a = tower(lambda b: iff(b, P), 8, Q)
        self.assertTrue(simplified(a) == a)
        self.assertEqual(simplified(to(a, land(a, verum()))), verum())
        # This one stands for hundreds of millions of parts.
        self.assertEqual(height(simplified(tower(lambda b: iff(b, P), 28, Q))), 57)
        self.assertEqual(simplified(doubled_tower(28)), P)
