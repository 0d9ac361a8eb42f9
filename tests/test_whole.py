"""What is promised of the program as a whole: one answer for each sequent and each logic, and it can be checked."""

import unittest

from elsewhere.decision import decide, decide_formula
from elsewhere.derivation import derives
from elsewhere.errors import InvalidText
from elsewhere.formula import iff, is_guarded, substitute
from elsewhere.interpolation import interpolant
from elsewhere.logics import INTERMEDIATE, MODAL, holds, is_model_of
from elsewhere.papers import answers, paper_answer, paper_holds, read_model, write_model, write_paper
from elsewhere.provability import fixed_point
from elsewhere.reading import term_for
from elsewhere.sequent import sequent
from elsewhere.terms import type_of
from elsewhere.text import show
from elsewhere.theory import Theory
from elsewhere.translations import box_translation, double_negation, strong_boxes
from tests.samples import Dice, boxed_formula, formula_with, mixed_formula, mixed_model_of, to

ALL = MODAL + INTERMEDIATE

# Pairs of logics such that each sequent that is valid in the first one is valid in the second one.
WITHIN = (
    ("K", "D"), ("D", "T"), ("K", "K4"), ("D", "D4"), ("K4", "D4"), ("T", "S4"), ("D4", "S4"), ("S4", "S5"), ("K4", "GL"), ("S4", "Grz"),
    ("Int", "KC"), ("KC", "LC"), ("Int", "BD2"), ("LC", "HT"), ("BD2", "HT"), ("HT", "Cl"),
)


def drawn_sequents(seed, many, plain):
    dice = Dice(seed)
    found = []
    for _ in range(many):
        if plain:
            sides = [[mixed_formula(dice, 4, True) for _ in range(dice.below(3))] for _ in range(2)]
            sides[1].append(formula_with(dice, 4 + dice.below(6), True))
        else:
            sides = [[boxed_formula(dice, 4) for _ in range(dice.below(3))] for _ in range(2)]
            sides[1].append(formula_with(dice, 4 + dice.below(6)))
        found.append(sequent(*sides))
    return found


class Answers(unittest.TestCase):
    def test_papers_of_each_logic(self):
        seen = {}
        for logic in ALL:
            plain = logic in INTERMEDIATE
            models = [mixed_model_of(Dice(1600 + k), logic, 1 + k % 4, "pqrs") for k in range(16)]
            for goal in drawn_sequents(1601, 25, plain):
                paper = write_paper(logic, goal)
                self.assertIs(paper_holds(paper), True)
                answer = paper_answer(paper)
                self.assertEqual(answer, "valid" if decide(logic, goal).is_valid() else "refuted")
                seen[(logic, answer)] = seen.get((logic, answer), 0) + 1
                self.nothing_says_otherwise(logic, goal, answer, models)
        for logic in ALL:
            for answer in ("valid", "refuted"):
                self.assertGreaterEqual(seen.get((logic, answer), 0), 2, (logic, answer))

    def nothing_says_otherwise(self, logic, goal, answer, models):
        head = "".join(line + "\n" for line in write_paper(logic, goal).split("\n")[:3])
        if answer == "valid":
            for model in models:
                for v in range(model.frame()[0]):
                    self.assertIs(paper_holds(f"{head}refuted {v}\n{write_model(model)}"), False)
        else:
            steps = "".join(line + "\n" for line in write_paper("Cl" if logic in INTERMEDIATE else "S5", goal).split("\n")[4:-1])
            for other in (steps, "", *[write_paper(logic, sequent(goal[0], [*goal[1], a])).split("derivation\n")[-1] for a in goal[0]]):
                try:
                    self.assertIs(paper_holds(f"{head}derivation\n{other}"), False)
                except InvalidText:
                    pass

    def test_questions_of_each_logic(self):
        for plain, logics in ((False, MODAL), (True, INTERMEDIATE)):
            goals = drawn_sequents(1602, 6, plain)
            lines, wanted = [], []
            for goal in goals:
                for logic in logics:
                    left, right = (", ".join(show(a) for a in side) for side in goal)
                    lines.append(f"{logic} : {left} => {right}\n")
                    wanted.append(write_paper(logic, goal))
            self.assertEqual(answers("".join(lines)), wanted)

    def test_logics_within_logics(self):
        valid = {}
        for logic in ALL:
            valid[logic] = [decide(logic, goal).is_valid() for goal in drawn_sequents(1603, 60, logic in INTERMEDIATE)]
        for small, great in WITHIN:
            self.assertTrue(all(there or not here for here, there in zip(valid[small], valid[great])), (small, great))

    def test_models_of_answers_can_be_read_again(self):
        for logic in ALL:
            for goal in drawn_sequents(1604, 15, logic in INTERMEDIATE):
                decision = decide(logic, goal)
                if not decision.is_valid():
                    model, world = read_model(write_model(decision.model())), decision.world()
                    self.assertTrue(is_model_of(logic, model))
                    self.assertTrue(all(world in holds(logic, model, a) for a in goal[0]))
                    self.assertFalse(any(world in holds(logic, model, a) for a in goal[1]))


class BetweenTheParts(unittest.TestCase):
    def test_translations_keep_the_answers(self):
        dice = Dice(1605)
        for _ in range(60):
            a = formula_with(dice, 4 + dice.below(5), True)
            valid = {logic: decide_formula(logic, a).is_valid() for logic in ("Int", "Cl")}
            self.assertEqual(valid["Int"], decide_formula("S4", box_translation(a)).is_valid())
            self.assertEqual(valid["Int"], decide_formula("Grz", box_translation(a)).is_valid())
            self.assertEqual(valid["Cl"], decide_formula("S5", box_translation(a)).is_valid())
            self.assertEqual(valid["Cl"], decide_formula("Int", double_negation(a)).is_valid())
            b = formula_with(dice, 4 + dice.below(5))
            self.assertEqual(decide_formula("Grz", b).is_valid(), decide_formula("GL", strong_boxes(b)).is_valid())

    def test_terms_are_there_for_valid_formulas(self):
        for goal in drawn_sequents(1606, 80, True):
            a = goal[1][-1]
            if decide_formula("Int", a).is_valid():
                self.assertEqual(type_of([], term_for(a)), a)

    def test_fixed_points_and_interpolants_come_with_derivations(self):
        dice = Dice(1607)
        fixed = 0
        for _ in range(60):
            a = to(boxed_formula(dice, 4), boxed_formula(dice, 3))
            if decide_formula("GL", a).is_valid():
                c, first, second = interpolant("GL", a[1], a[2])
                self.assertTrue(derives("GL", first, ((a[1],), (c,))) and derives("GL", second, ((c,), (a[2],))))
            b = ("box", a)
            if is_guarded(b, "p"):
                f, steps = fixed_point(b, "p")
                self.assertTrue(derives("GL", steps, ((), (iff(f, substitute(b, {"p": f})),))))
                fixed += 1
        self.assertEqual(fixed, 60)

    def test_theories_ask_as_papers_answer(self):
        for logic in ALL:
            for left, right in drawn_sequents(1608, 10, logic in INTERMEDIATE):
                theory = Theory(logic)
                for a in left:
                    theory.assume(a)
                answer = paper_answer(write_paper(logic, (left, right[:1])))
                self.assertEqual("valid" if theory.ask(right[0]).is_valid() else "refuted", answer)
