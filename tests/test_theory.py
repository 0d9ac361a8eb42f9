import unittest

from elsewhere.decision import Decision, decide, follows
from elsewhere.derivation import derives
from elsewhere.errors import Inconsistent, NoAxiom, NotPlain, NotValid, OtherLogic, UnknownLogic
from elsewhere.formula import neg, verum
from elsewhere.logics import INTERMEDIATE, MODAL, holds, is_model_of
from elsewhere.model import Model
from elsewhere.sequent import sequent
from elsewhere.text import parse
from elsewhere.theory import Theory
from tests.samples import F, P, Q, R, Dice, box, land, lor, mixed_formula, to

ALL = MODAL + INTERMEDIATE


def theory_of(logic, formulas):
    theory = Theory(logic)
    for a in formulas:
        theory.assume(a)
    return theory


def parsed(*texts):
    return [parse(text) for text in texts]


def drawn_theory(dice, logic, many=5):
    """A theory many of whose axioms follow from others."""
    plain = logic in INTERMEDIATE
    found = []
    for _ in range(1 + dice.below(many)):
        a = mixed_formula(dice, 3, plain)
        kind = dice.below(6)
        if found and kind < 4:
            b = found[dice.below(len(found))]
            a = (lor(a, b), land(b, found[0]), to(a, b), neg(neg(b)))[kind]
        found.append(a)
    return theory_of(logic, found)


class Axioms(unittest.TestCase):
    def test_names(self):
        for logic in ALL:
            self.assertEqual(Theory(logic).axioms(), [])
        for logic in ("", "k", "S3", "K ", "INT", "int", "GLS"):
            with self.assertRaises(UnknownLogic):
                Theory(logic)

    def test_assume_and_drop(self):
        for logic in ALL:
            theory = Theory(logic)
            self.assertIs(theory.assume(Q), True)
            self.assertIs(theory.assume(to(P, Q)), True)
            self.assertIs(theory.assume(P), True)
            self.assertIs(theory.assume(Q), False)
            self.assertIs(theory.assume(to(P, Q)), False)
            self.assertIs(theory.assume(land(Q, Q)), True)
            self.assertEqual(theory.axioms(), [Q, to(P, Q), P, land(Q, Q)])
            self.assertIsNone(theory.drop(to(P, Q)))
            self.assertEqual(theory.axioms(), [Q, P, land(Q, Q)])
            for a in (to(P, Q), R, F, land(P, P)):
                with self.assertRaises(NoAxiom):
                    theory.drop(a)
            self.assertEqual(theory.axioms(), [Q, P, land(Q, Q)])
            self.assertIs(theory.assume(to(P, Q)), True)
            self.assertEqual(theory.axioms(), [Q, P, land(Q, Q), to(P, Q)])
            for a in theory.axioms():
                theory.drop(a)
            self.assertEqual(theory.axioms(), [])

    def test_boxes(self):
        for logic in MODAL:
            theory = Theory(logic)
            self.assertIs(theory.assume(to(P, box(P))), True)
            self.assertIs(theory.assume(to(P, box(P))), False)
            theory.drop(to(P, box(P)))
        for logic in INTERMEDIATE:
            theory = theory_of(logic, [P])
            for a in (box(P), to(P, box(F)), neg(neg(box(P)))):
                with self.assertRaises(NotPlain):
                    theory.assume(a)
                with self.assertRaises(NoAxiom):
                    theory.drop(a)
            self.assertEqual(theory.axioms(), [P])

    def test_changed_lists_do_not_change_the_theory(self):
        theory = theory_of("S4", parsed("p", "p -> []q", "[]q"))
        for call in (theory.axioms, theory.redundant, theory.independent, lambda: theory.core(Q)):
            before = call()
            found = call()
            self.assertIs(type(found), list)
            found.append(F)
            found[0] = R
            self.assertEqual(call(), before)
            self.assertEqual(theory.axioms(), parsed("p", "p -> []q", "[]q"))

    def test_theories_are_apart(self):
        first, second = Theory("K"), Theory("K")
        first.assume(P)
        self.assertEqual(second.axioms(), [])

    def test_the_other_methods_do_not_change_a_theory(self):
        dice = Dice(1401)
        for logic in ALL:
            theory = drawn_theory(dice, logic)
            before = theory.axioms()
            theory.ask(P)
            theory.is_consistent()
            theory.redundant()
            theory.independent()
            theory.compare(theory)
            for call in (theory.model, lambda: theory.core(P), lambda: theory.core(verum())):
                try:
                    call()
                except (Inconsistent, NotValid):
                    pass
            self.assertEqual(theory.axioms(), before)


class Asking(unittest.TestCase):
    def test_ask(self):
        dice = Dice(1402)
        seen = {True: 0, False: 0}
        for logic in ALL:
            for _ in range(12):
                theory = drawn_theory(dice, logic)
                a = mixed_formula(dice, 3, logic in INTERMEDIATE)
                goal = sequent(theory.axioms(), [a])
                found = theory.ask(a)
                self.assertIs(type(found), Decision)
                self.assertIs(found.is_valid(), decide(logic, goal).is_valid())
                seen[found.is_valid()] += 1
                if found.is_valid():
                    self.assertTrue(derives(logic, found.derivation(), goal))
                else:
                    model, world = found.model(), found.world()
                    self.assertTrue(is_model_of(logic, model))
                    self.assertTrue(all(world in holds(logic, model, b) for b in theory.axioms()))
                    self.assertNotIn(world, holds(logic, model, a))
        self.assertGreater(min(seen.values()), 40)

    def test_without_axioms(self):
        for logic in ALL:
            theory = Theory(logic)
            self.assertTrue(theory.ask(to(P, P)).is_valid())
            self.assertFalse(theory.ask(P).is_valid())
            self.assertIs(theory.is_consistent(), True)
            self.check_model(theory)

    def test_not_plain(self):
        for logic in INTERMEDIATE:
            for axioms in ([], [P], [F]):
                for a in (box(P), to(box(P), box(P)), lor(P, neg(box(F)))):
                    with self.assertRaises(NotPlain):
                        theory_of(logic, axioms).ask(a)

    def check_model(self, theory):
        found = theory.model()
        self.assertIs(type(found), tuple)
        model, world = found
        self.assertIs(type(model), Model)
        self.assertTrue(is_model_of(theory.logic, model))
        self.assertIn(world, range(model.frame()[0]))
        for a in theory.axioms():
            self.assertIn(world, holds(theory.logic, model, a))

    def check_consistency(self, theory):
        consistent = not decide(theory.logic, sequent(theory.axioms(), [])).is_valid()
        self.assertIs(theory.is_consistent(), consistent)
        if consistent:
            self.check_model(theory)
        else:
            with self.assertRaises(Inconsistent):
                theory.model()
        return consistent

    def test_consistency(self):
        for logic in ALL:
            for axioms, wanted in ((["p"], True), (["F"], False), (["p", "~p"], False), (["p -> q", "p", "~q"], False), (["p -> ~p"], True),
                                   (["p <-> ~p"], False), (["~(p | ~p)"], False), (["T"], True), (["p | q", "~p"], True), (["~p & ~~p"], False)):
                self.assertIs(self.check_consistency(theory_of(logic, parsed(*axioms))), wanted, (logic, axioms))
        for logic in MODAL:
            self.assertIs(self.check_consistency(theory_of(logic, parsed("[]F"))), logic in ("K", "K4", "GL"))
            self.assertIs(self.check_consistency(theory_of(logic, parsed("p", "[]~p"))), logic not in ("T", "S4", "S5", "Grz"))
            self.assertIs(self.check_consistency(theory_of(logic, parsed("[](p -> <>p)", "<>p"))), logic != "GL")

    def test_drawn_theories(self):
        dice = Dice(1403)
        seen = {True: 0, False: 0}
        for logic in ALL:
            for _ in range(12):
                theory = drawn_theory(dice, logic)
                seen[self.check_consistency(theory)] += 1
        self.assertGreater(min(seen.values()), 10)


def is_part(small, great):
    """Whether a list comes of another one by leaving items out."""
    rest = iter(great)
    return all(a in rest for a in small)


class Cores(unittest.TestCase):
    def check_core(self, theory, a):
        found = theory.core(a)
        self.assertTrue(is_part(found, theory.axioms()))
        self.assertTrue(follows(theory.logic, found, a))
        for k in range(len(found)):
            self.assertFalse(follows(theory.logic, found[:k] + found[k + 1:], a))
        return found

    def check_lists(self, theory):
        axioms, logic = theory.axioms(), theory.logic
        wanted = [a for k, a in enumerate(axioms) if follows(logic, axioms[:k] + axioms[k + 1:], a)]
        self.assertEqual(theory.redundant(), wanted)
        found = theory.independent()
        self.assertTrue(is_part(found, axioms))
        for a in axioms:
            self.assertTrue(follows(logic, found, a))
        for k, a in enumerate(found):
            self.assertFalse(follows(logic, found[:k] + found[k + 1:], a))
        return found

    def test_simple_ones(self):
        for logic in ALL:
            theory = theory_of(logic, parsed("p", "p -> q", "q", "q -> r", "T", "p & q"))
            self.assertEqual(theory.redundant(), parsed("p", "p -> q", "q", "T", "p & q"))
            self.assertEqual(len(self.check_lists(theory)), 2 if parse("p & q") in theory.independent() else 3)
            self.assertEqual(self.check_core(theory, parse("p -> p")), [])
            self.assertEqual(self.check_core(theory, verum()), [])
            self.assertIn(len(self.check_core(theory, R)), (2, 3))
            self.assertEqual(self.check_core(theory, parse("q -> r")), parsed("q -> r"))
            with self.assertRaises(NotValid):
                theory.core(parse("s"))

    def test_equal_truths_said_in_different_ways(self):
        for logic in ALL:
            theory = theory_of(logic, parsed("p & q", "q & p", "p & p & q"))
            self.assertEqual(theory.redundant(), theory.axioms())
            self.assertEqual(len(self.check_lists(theory)), 1)
            self.assertEqual(len(self.check_core(theory, P)), 1)
            theory = theory_of(logic, parsed("p -> q", "r", "q", "T & q", "p -> T & q"))
            self.assertEqual(theory.redundant(), parsed("p -> q", "q", "T & q", "p -> T & q"))
            self.assertEqual(len(self.check_lists(theory)), 2)

    def test_valid_axioms(self):
        for logic in ALL:
            theory = theory_of(logic, parsed("T", "p -> p", "p & q -> p"))
            self.assertEqual(theory.redundant(), theory.axioms())
            self.assertEqual(theory.independent(), [])
            self.assertEqual(theory.core(parse("q -> q")), [])

    def test_no_axioms(self):
        theory = Theory("K")
        self.assertEqual((theory.redundant(), theory.independent(), theory.core(verum())), ([], [], []))
        with self.assertRaises(NotValid):
            theory.core(P)

    def test_inconsistent_axioms(self):
        for logic in ALL:
            theory = theory_of(logic, parsed("p", "q", "~p", "r"))
            self.assertEqual(theory.core(F), parsed("p", "~p"))
            self.assertEqual(self.check_core(theory, parse("s")), parsed("p", "~p"))
            self.assertEqual(self.check_core(theory, Q), [Q] if theory.core(Q) == [Q] else parsed("p", "~p"))
            self.check_lists(theory)

    def test_where_logics_differ(self):
        texts = parsed("~~p", "p", "[]p", "[][]p")
        for logic in MODAL:
            theory = theory_of(logic, texts)
            self.assertEqual(theory.redundant(), [texts[0], texts[1]] + {
                "K": [], "D": [], "T": texts[2:3], "K4": texts[3:], "D4": texts[3:], "GL": texts[3:]}.get(logic, texts[2:]))
            self.check_lists(theory)
        for logic in INTERMEDIATE:
            theory = theory_of(logic, parsed("~~p", "p", "q | ~q"))
            self.assertEqual(theory.redundant(), parsed("~~p", "p", "q | ~q") if logic == "Cl" else parsed("~~p"))
            self.check_lists(theory)

    def test_drawn_theories(self):
        dice = Dice(1404)
        sizes = {}
        for logic in ALL:
            for _ in range(10):
                theory = drawn_theory(dice, logic, 6)
                self.check_lists(theory)
                for _ in range(2):
                    a = mixed_formula(dice, 3, logic in INTERMEDIATE)
                    if theory.ask(a).is_valid():
                        many = len(self.check_core(theory, a))
                        sizes[many] = sizes.get(many, 0) + 1
                    else:
                        with self.assertRaises(NotValid):
                            theory.core(a)
        self.assertGreaterEqual(len(sizes), 3)

    def test_not_plain_comes_first(self):
        for logic in INTERMEDIATE:
            for axioms in ([], [P], [F]):
                for a in (box(P), to(box(P), box(P)), land(Q, box(Q))):
                    with self.assertRaises(NotPlain):
                        theory_of(logic, axioms).core(a)


class Comparing(unittest.TestCase):
    def test_simple_ones(self):
        for logic in ALL:
            first = theory_of(logic, parsed("p", "q"))
            for texts, wanted in ((("p & q",), (True, True)), (("p",), (True, False)), (("p", "q", "r"), (False, True)), (("r",), (False, False)),
                                  ((), (True, False)), (("F",), (False, True)), (("q", "p"), (True, True)), (("T",), (True, False))):
                second = theory_of(logic, parsed(*texts))
                self.assertEqual(first.compare(second), wanted, texts)
                self.assertEqual(second.compare(first), wanted[::-1], texts)
                self.assertIs(type(first.compare(second)), tuple)
                self.assertTrue(all(type(answer) is bool for answer in first.compare(second)))
        self.assertEqual(Theory("K").compare(Theory("K")), (True, True))

    def test_drawn_theories(self):
        dice = Dice(1405)
        seen = set()
        for logic in ALL:
            for _ in range(6):
                first, second = drawn_theory(dice, logic, 3), drawn_theory(dice, logic, 3)
                there = all(follows(logic, first.axioms(), a) for a in second.axioms())
                back = all(follows(logic, second.axioms(), a) for a in first.axioms())
                seen.add((there, back))
                self.assertEqual(first.compare(second), (there, back))
        self.assertEqual(len(seen), 4)

    def test_other_logics(self):
        for first in ALL:
            for second in ALL:
                if first != second:
                    with self.assertRaises(OtherLogic):
                        Theory(first).compare(Theory(second))
