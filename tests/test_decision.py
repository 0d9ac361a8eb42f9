import time
import unittest

from elsewhere.decision import Decision, decide, decide_formula, equivalent, follows, valid_in
from elsewhere.derivation import count_rule, derives, first_wrong
from elsewhere.errors import IsValid, NotPlain, NotValid, UnknownLogic
from elsewhere.formula import iff, neg, subformulas, variables, verum
from elsewhere.logics import INTERMEDIATE, MODAL, holds, is_model_of
from elsewhere.model import Model
from elsewhere.sequent import sequent
from elsewhere.text import parse
from tests.samples import (
    F, P, Q, R, Dice, box, boxed_formula, doubled_tower, formula_with, land, lor, mixed_formula, mixed_model_of, to,
    tower,
)

ALL = MODAL + INTERMEDIATE
NO_LOGICS = ("", "k", "S3", "K ", "INT", "int", "S6", "cl", "GLL")

# The logics in which each formula is valid.
TELLING = {
    "[]p -> p": "T S4 S5 Grz",
    "[]p -> [][]p": "K4 D4 S4 S5 GL Grz",
    "~[]F": "D T D4 S4 S5 Grz",
    "[]p -> <>p": "D T D4 S4 S5 Grz",
    "p -> []<>p": "S5",
    "<>p -> []<>p": "S5",
    "[]([]p -> p) -> []p": "GL",
    "[]([](p -> []p) -> p) -> p": "Grz",
    "[]([](p -> []p) -> p) -> []p": "GL Grz",
    "[]<>p -> <>[]p": "Grz",
    "[](p -> q) -> []p -> []q": "K D T K4 D4 S4 S5 GL Grz",
    "[](p & q) -> []p & []q": "K D T K4 D4 S4 S5 GL Grz",
    "[](p | q) -> []p | []q": "",
    "[][]p -> []p": "T S4 S5 Grz",
    "[]p": "",
    "[]T": "K D T K4 D4 S4 S5 GL Grz",
    "<>T": "D T D4 S4 S5 Grz",
    "[]F": "",
    "[]F | <>[]F": "GL",
    "[]<>p -> []F": "GL",
    "[]([]p -> q) | []([]q -> p)": "S5",
    "p | ~p": "K D T K4 D4 S4 S5 GL Grz Cl",
    "~~p -> p": "K D T K4 D4 S4 S5 GL Grz Cl",
    "((p -> q) -> p) -> p": "K D T K4 D4 S4 S5 GL Grz Cl",
    "~p | ~~p": "K D T K4 D4 S4 S5 GL Grz KC LC HT Cl",
    "~(p & q) -> ~p | ~q": "K D T K4 D4 S4 S5 GL Grz KC LC HT Cl",
    "(p -> q) | (q -> p)": "K D T K4 D4 S4 S5 GL Grz LC HT Cl",
    "(p -> q | r) -> (p -> q) | (p -> r)": "K D T K4 D4 S4 S5 GL Grz LC HT Cl",
    "p | (p -> q | ~q)": "K D T K4 D4 S4 S5 GL Grz BD2 HT Cl",
    "p | (p -> q) | ~q": "K D T K4 D4 S4 S5 GL Grz HT Cl",
    "(~p -> q | r) -> (~p -> q) | (~p -> r)": "K D T K4 D4 S4 S5 GL Grz KC LC HT Cl",
    "~~(p | ~p)": "K D T K4 D4 S4 S5 GL Grz Int KC LC BD2 HT Cl",
    "p -> ~~p": "K D T K4 D4 S4 S5 GL Grz Int KC LC BD2 HT Cl",
    "~~~p -> ~p": "K D T K4 D4 S4 S5 GL Grz Int KC LC BD2 HT Cl",
    "F -> p": "K D T K4 D4 S4 S5 GL Grz Int KC LC BD2 HT Cl",
    "(p -> q -> r) -> (p -> q) -> p -> r": "K D T K4 D4 S4 S5 GL Grz Int KC LC BD2 HT Cl",
    "p": "",
    "F": "",
    "T": "K D T K4 D4 S4 S5 GL Grz Int KC LC BD2 HT Cl",
}


class Case(unittest.TestCase):
    def answer(self, logic, goal):
        """Whether a sequent is valid, after a look at the derivation or the model."""
        told = (logic, goal)
        decision = decide(logic, goal)
        self.assertIs(type(decision), Decision)
        if decision.is_valid():
            steps = decision.derivation()
            self.assertIs(type(steps), list)
            self.assertEqual(first_wrong(logic, steps), -1, told)
            self.assertIs(derives(logic, steps, goal), True, told)
            for call in (decision.model, decision.world):
                with self.assertRaises(IsValid, msg=told):
                    call()
            return True
        self.assertIs(decision.is_valid(), False)
        model, world = decision.model(), decision.world()
        self.assertIs(type(model), Model)
        self.assertIs(is_model_of(logic, model), True, told)
        self.assertTrue(0 <= world < model.frame()[0], told)
        self.assertTrue(all(world in holds(logic, model, a) for a in goal[0]), told)
        self.assertFalse(any(world in holds(logic, model, a) for a in goal[1]), told)
        with self.assertRaises(NotValid, msg=told):
            decision.derivation()
        return False


class Answers(Case):
    def test_telling_formulas(self):
        rows = {}
        for text, names in TELLING.items():
            a = parse(text)
            found = [logic for logic in (MODAL if "[" in text or "<" in text else ALL) if self.answer(logic, sequent([], [a]))]
            self.assertEqual(found, names.split(), text)
            self.assertEqual(valid_in(a), found)
            for logic in ALL:
                rows.setdefault(logic, []).append(logic in found)
        for first in ALL:
            for second in ALL:
                if first != second and {first, second} != {"K", "Cl"}:
                    self.assertNotEqual(rows[first], rows[second], (first, second))

    def test_empty_sides(self):
        for logic in ALL:
            self.assertFalse(self.answer(logic, sequent([], [])))
            self.assertFalse(self.answer(logic, sequent([P], [])))
            self.assertFalse(self.answer(logic, sequent([], [P])))
            self.assertFalse(self.answer(logic, sequent([verum()], [])))
            self.assertTrue(self.answer(logic, sequent([], [verum()])))
            self.assertTrue(self.answer(logic, sequent([F], [])))
            self.assertTrue(self.answer(logic, sequent([P, neg(P)], [])))
            self.assertTrue(self.answer(logic, sequent([P, Q], [P])))
            self.assertEqual(self.answer(logic, sequent([], [P, neg(P)])), logic in MODAL + ("Cl",))
        for logic in MODAL:
            self.assertEqual(self.answer(logic, sequent([box(F)], [])), logic in ("D", "T", "D4", "S4", "S5", "Grz"))
            self.assertEqual(self.answer(logic, sequent([box(P)], [P])), logic in ("T", "S4", "S5", "Grz"))

    def test_drawn_sequents(self):
        dice = Dice(61)
        for logic in ALL:
            found = []
            for k in range(120):
                height = 2 + k % 4
                left, right = (
                    [mixed_formula(dice, height, logic in INTERMEDIATE) for _ in range(dice.below(3))] for _ in range(2)
                )
                found.append(self.answer(logic, sequent(left, right)))
            self.assertGreater(min(found.count(True), found.count(False)), 10, logic)

    def test_two_formulas_on_each_side(self):
        dice = Dice(62)
        for logic in ALL:
            for _ in range(40):
                left, right = ([formula_with(dice, 6, logic in INTERMEDIATE) for _ in range(2)] for _ in range(2))
                self.answer(logic, sequent(left, right))

    def test_many_boxes(self):
        dice = Dice(63)
        for logic in MODAL:
            for k in range(120):
                left, right = ([boxed_formula(dice, 3 + k % 4) for _ in range(dice.below(3))] for _ in range(2))
                self.answer(logic, sequent(left, right))

    def test_answers_that_rest_on_unfinished_ones(self):
        # Here a search that keeps each answer it finds below an unfinished sequent comes to wrong models.
        for logics, left, right in (
            (("K4", "D4"), ("[]~p", "[](~[]r | ~[]~r)", "[]([]~p | []~p | ~[]q)", "[](~[]s | p | ~r)",
                            "[](p | ~[]~r | []p)", "[](s | []p | []~r)", "[](s | ~[]q)", "~[]r"), ("[]p", "~r")),
            (("D4",), ("[]~s", "[]([]q | ~s)", "[]([]s | r)", "[](~[]~p | ~s)", "[](~[]~q | ~[]~s | ~[]~q)",
                       "[](~[]~r | r | ~p)", "[](~[]~s | ~[]~p | ~q)", "[](~p | ~[]r | ~[]r)", "s"), ()),
        ):
            goal = sequent([parse(text) for text in left], [parse(text) for text in right])
            for logic in logics:
                self.assertTrue(self.answer(logic, goal), (logic, goal))
                for k in range(len(goal[0])):
                    self.answer(logic, (goal[0][:k] + goal[0][k + 1:], goal[1]))

    def test_boxed_clauses(self):
        dice = Dice(68)

        def literal():
            a = [P, Q, R, ("var", "s")][dice.below(4)]
            return (a, neg(a), box(a), neg(box(a)), box(neg(a)), neg(box(neg(a))))[dice.below(6)]
        for logic in MODAL:
            for k in range(60):
                left = [box(lor(literal(), lor(literal(), literal()))) for _ in range(3 + k % 5)]
                self.answer(logic, sequent(left + [literal()], [literal()][:dice.below(2)]))

    def test_many_implications(self):
        dice = Dice(64)

        def arrows(height):
            if height == 1 or dice.below(8) == 0:
                return (P, Q, R, F)[dice.below(4)]
            return (to, to, to, lor)[dice.below(4)](arrows(height - 1), arrows(height - 1))
        for logic in INTERMEDIATE:
            for k in range(80):
                left, right = ([arrows(3 + k % 2) for _ in range(dice.below(3))] for _ in range(2))
                self.answer(logic, sequent(left, right))

    def test_the_answer_for_a_formula_and_for_its_sequent(self):
        dice = Dice(65)
        for logic in ALL:
            for _ in range(25):
                a, b = (mixed_formula(dice, 4, logic in INTERMEDIATE) for _ in range(2))
                self.assertEqual(self.answer(logic, sequent([a], [b])), self.answer(logic, sequent([], [to(a, b)])))
                self.assertEqual(
                    self.answer(logic, sequent([], [land(a, b)])),
                    self.answer(logic, sequent([], [a])) and self.answer(logic, sequent([], [b])),
                )

    def test_a_rule_of_all_modal_logics(self):
        dice = Dice(66)
        for logic in MODAL:
            for _ in range(25):
                a = lor(mixed_formula(dice, 3), neg(mixed_formula(dice, 3)))
                if self.answer(logic, sequent([], [a])):
                    self.assertTrue(self.answer(logic, sequent([], [box(a)])))

    def test_high_formulas(self):
        for logic in ALL:
            self.answer(logic, sequent([], [doubled_tower(24)]))
            self.answer(logic, sequent([], [tower(neg, 49)]))
            self.answer(logic, sequent([tower(neg, 49)], [tower(neg, 47)]))
            self.assertTrue(self.answer(logic, sequent([tower(lambda a: land(Q, a), 48)], [tower(lambda a: lor(a, R), 48)])))
        for logic in MODAL:
            for many, more in ((47, 49), (49, 47), (48, 49)):
                self.answer(logic, sequent([tower(box, many)], [tower(box, more)]))
            self.answer(logic, sequent([tower(lambda a: neg(box(neg(a))), 16)], [tower(lambda a: box(neg(neg(box(a)))), 12)]))

    def test_no_cuts_where_interpolants_are_found(self):
        dice = Dice(67)
        for logic in ("K", "D", "T", "K4", "D4", "S4", "GL", "Grz", "Cl"):
            for _ in range(30):
                a = mixed_formula(dice, 4, logic == "Cl")
                self.assertEqual(count_rule(decide(logic, sequent([a], [lor(Q, a), P])).derivation(), "cut"), 0)


class AgainstModels(Case):
    def test_nothing_that_a_model_refutes_is_called_valid(self):
        dice = Dice(71)
        for logic in ALL:
            models = [mixed_model_of(dice, logic, 1 + k % 4, "pqr") for k in range(40)]
            self.assertTrue(all(is_model_of(logic, model) for model in models))
            met = 0
            for _ in range(80):
                goal = sequent(
                    [mixed_formula(dice, 3, logic in INTERMEDIATE) for _ in range(dice.below(3))],
                    [mixed_formula(dice, 4, logic in INTERMEDIATE) for _ in range(1 + dice.below(2))],
                )
                refuted = False
                for model in models:
                    worlds = set(range(model.frame()[0]))
                    for k, side in enumerate(goal):
                        for a in side:
                            good = set(holds(logic, model, a))
                            worlds = worlds & good if k == 0 else worlds - good
                    refuted = refuted or bool(worlds)
                met += refuted
                if refuted:
                    self.assertIs(decide(logic, goal).is_valid(), False, (logic, goal))
            self.assertGreater(met, 20)


class Fast(Case):
    def test_ten_different_subformulas(self):
        dice = Dice(72)
        for logic in ALL:
            begun = time.perf_counter()
            for _ in range(40):
                a = formula_with(dice, 10, logic in INTERMEDIATE)
                self.assertEqual(len(subformulas(a)), 10)
                self.answer(logic, sequent([], [a]))
                self.answer(logic, sequent([a], []))
            self.assertLess(time.perf_counter() - begun, 20, logic)

    def test_greater_formulas(self):
        dice = Dice(73)
        begun = time.perf_counter()
        for logic in ALL:
            for _ in range(8):
                self.answer(logic, sequent([], [mixed_formula(dice, 7, logic in INTERMEDIATE)]))
                self.answer(logic, sequent([], [formula_with(dice, 20, logic in INTERMEDIATE)]))
        self.assertLess(time.perf_counter() - begun, 60)


class Decisions(Case):
    def test_lists_are_new(self):
        decision = decide("K", sequent([land(P, Q)], [land(Q, P)]))
        steps = decision.derivation()
        kept = list(steps)
        steps.clear()
        self.assertEqual(decision.derivation(), kept)
        decision.derivation().append(None)
        self.assertEqual(decision.derivation(), kept)
        refuted = decide("K", sequent([P], [Q]))
        refuted.model().true_worlds().clear()
        self.assertTrue(refuted.world() in holds("K", refuted.model(), P))

    def test_the_same_answer_again(self):
        for logic in ALL:
            goal = sequent([lor(P, Q)], [to(P, Q), R])
            first, second = decide(logic, goal), decide(logic, goal)
            self.assertFalse(first.is_valid())
            self.assertEqual(first.model().frame(), second.model().frame())
            self.assertEqual(first.model().true_worlds(), second.model().true_worlds())
            self.assertEqual(first.world(), second.world())

    def test_variables_of_the_model(self):
        for logic in ALL:
            model = decide(logic, sequent([P, lor(Q, R)], [land(Q, R)])).model()
            self.assertLessEqual(set(model.true_worlds()), {"p", "q", "r"})

    def test_formulas_of_the_derivation(self):
        for logic in ALL:
            for step in decide(logic, sequent([P, lor(Q, R)], [lor(R, land(P, Q))])).derivation():
                self.assertTrue(all(set(variables(a)) <= {"p", "q", "r"} for side in step[1] for a in side))


class Errors(Case):
    def test_unknown_logics_are_named_first(self):
        for logic in NO_LOGICS:
            for a in (P, box(P)):
                for call in (
                    lambda: decide(logic, sequent([], [a])), lambda: decide_formula(logic, a),
                    lambda: equivalent(logic, a, a), lambda: follows(logic, [a], a), lambda: follows(logic, [], a),
                ):
                    with self.assertRaises(UnknownLogic):
                        call()

    def test_plain_formulas(self):
        for logic in INTERMEDIATE:
            for a in (box(P), to(P, lor(Q, neg(box(F)))), neg(neg(box(box(P))))):
                for call in (
                    lambda: decide(logic, sequent([], [a])), lambda: decide(logic, sequent([a], [])),
                    lambda: decide(logic, sequent([P], [P, a])), lambda: decide(logic, sequent([F, a], [Q])),
                    lambda: decide_formula(logic, a), lambda: equivalent(logic, a, P), lambda: equivalent(logic, P, a),
                    lambda: follows(logic, [a], P), lambda: follows(logic, [P], a),
                    lambda: follows(logic, [P, Q, a], P), lambda: follows(logic, [], a),
                ):
                    with self.assertRaises(NotPlain):
                        call()


class Questions(Case):
    def test_decide_formula(self):
        for logic in ALL:
            decision = decide_formula(logic, to(P, P))
            self.assertIs(decision.is_valid(), True)
            self.assertTrue(derives(logic, decision.derivation(), sequent([], [to(P, P)])))
            self.assertIs(decide_formula(logic, to(P, Q)).is_valid(), False)

    def test_valid_in(self):
        self.assertEqual(valid_in(parse("[]p -> p")), ["T", "S4", "S5", "Grz"])
        self.assertEqual(valid_in(to(P, P)), list(ALL))
        self.assertEqual(valid_in(to(box(P), box(P))), list(MODAL))
        self.assertEqual(valid_in(P), [])
        self.assertEqual(valid_in(box(P)), [])
        self.assertEqual(valid_in(lor(P, neg(P))), list(MODAL) + ["Cl"])
        found = valid_in(P)
        found.append("K")
        self.assertEqual(valid_in(P), [])

    def test_equivalent(self):
        for logic in ALL:
            self.assertIs(equivalent(logic, land(P, Q), land(Q, P)), True)
            self.assertIs(equivalent(logic, P, land(P, Q)), False)
            self.assertIs(equivalent(logic, land(P, Q), P), False)
            self.assertIs(equivalent(logic, P, Q), False)
            self.assertIs(equivalent(logic, F, neg(verum())), True)
            self.assertIs(equivalent(logic, P, neg(neg(P))), logic in MODAL + ("Cl",))
        for logic in MODAL:
            self.assertIs(equivalent(logic, box(P), box(box(P))), logic in ("S4", "S5", "Grz"))
            self.assertIs(equivalent(logic, box(P), land(P, box(P))), logic in ("T", "S4", "S5", "Grz"))

    def test_equivalent_is_both_implications(self):
        dice = Dice(74)
        for logic in ALL:
            for _ in range(25):
                a, b = (mixed_formula(dice, 3, logic in INTERMEDIATE) for _ in range(2))
                self.assertEqual(equivalent(logic, a, b), decide_formula(logic, iff(a, b)).is_valid())

    def test_follows(self):
        for logic in ALL:
            self.assertIs(follows(logic, [], verum()), True)
            self.assertIs(follows(logic, [], P), False)
            self.assertIs(follows(logic, [P], P), True)
            self.assertIs(follows(logic, [Q, P, Q, P], land(P, Q)), True)
            self.assertIs(follows(logic, [to(P, Q), P], Q), True)
            self.assertIs(follows(logic, [to(P, Q), to(P, Q)], Q), False)
            self.assertIs(follows(logic, [P, neg(P)], R), True)
            self.assertIs(follows(logic, [F], P), True)
        for logic in MODAL:
            # What follows at a world, not what follows from axioms that hold everywhere.
            self.assertIs(follows(logic, [P], box(P)), False)

    def test_arguments_stay(self):
        formulas = [Q, P, Q]
        follows("K", formulas, P)
        self.assertEqual(formulas, [Q, P, Q])
