import unittest

from elsewhere.errors import NoFit, UnknownLogic
from elsewhere.formula import neg, verum
from elsewhere.logics import INTERMEDIATE, MODAL, holds, is_model_of
from elsewhere.rules import premises_of
from elsewhere.sequent import is_sequent, sequent
from tests.samples import F, P, Q, R, Dice, box, land, lor, mixed_formula, mixed_model_of, to

ALL = MODAL + INTERMEDIATE
ALONE = ("Int", "KC", "LC", "BD2", "HT")
EVERYWHERE = ("axiom", "falsum", "and_left", "and_right", "or_left", "or_right", "implies_left", "implies_right", "cut")
ONLY_IN = {
    "reflexive": ("T", "S4", "S5", "Grz"), "modal": MODAL, "serial": ("D", "D4"), "weak_middle": ("KC",),
    "linear_right": ("LC",), "depth_right": ("BD2",), "two_right": ("HT",),
}
RULES = EVERYWHERE + tuple(ONLY_IN)
NO_RULES = ("weaken", "", "Axiom", "axiom ", "box", "implies", "and", "and_", "left", "neg_left", "identity")
S = ("var", "s")


def logics_of(rule):
    return ONLY_IN.get(rule, ALL)


def middle(a):
    return lor(a, neg(a))


def weak(a):
    return lor(neg(a), neg(neg(a)))


class Case(unittest.TestCase):
    def fits(self, logic, rule, conclusion, main, *premises):
        found = premises_of(logic, rule, conclusion, main)
        self.assertEqual(found, list(premises), (logic, rule, conclusion, main))
        self.assertIs(type(found), list)
        self.assertTrue(all(type(row) is tuple and is_sequent(row) for row in found))

    def fails(self, logic, rule, conclusion, main):
        with self.assertRaises(NoFit, msg=(logic, rule, conclusion, main)):
            premises_of(logic, rule, conclusion, main)


class Names(Case):
    # Each rule fits this sequent in each of its logics with the main formula that is named.
    CONCLUSION = sequent([P, F, land(P, Q), lor(P, Q), to(P, Q), box(P)], [P, land(P, Q), lor(P, Q), to(P, Q), box(Q)])
    MAIN = {
        "axiom": P, "falsum": None, "and_left": land(P, Q), "and_right": land(P, Q), "or_left": lor(P, Q),
        "or_right": lor(P, Q), "implies_left": to(P, Q), "implies_right": to(P, Q), "cut": R, "reflexive": box(P),
        "modal": box(Q), "serial": None, "weak_middle": weak(P), "linear_right": None, "depth_right": to(P, Q),
        "two_right": None,
    }

    def test_which_logics_have_which_rules(self):
        self.assertEqual(len(RULES), 16)
        for rule in RULES:
            for logic in ALL:
                if logic in logics_of(rule):
                    self.assertIs(type(premises_of(logic, rule, self.CONCLUSION, self.MAIN[rule])), list)
                else:
                    self.fails(logic, rule, self.CONCLUSION, self.MAIN[rule])

    def test_none_where_a_formula_is_due_and_the_other_way_round(self):
        for rule in RULES:
            for logic in logics_of(rule):
                if self.MAIN[rule] is None:
                    for main in (P, F, box(Q), to(P, Q)):
                        self.fails(logic, rule, self.CONCLUSION, main)
                else:
                    self.fails(logic, rule, self.CONCLUSION, None)

    def test_no_rules(self):
        for logic in ALL:
            for rule in NO_RULES:
                for main in (None, P):
                    self.fails(logic, rule, self.CONCLUSION, main)

    def test_unknown_logics_are_named_first(self):
        for logic in ("", "k", "S3", "K ", "INT", "S6", "cl"):
            for rule in RULES + NO_RULES:
                for main in (None, P, self.MAIN.get(rule)):
                    with self.assertRaises(UnknownLogic):
                        premises_of(logic, rule, self.CONCLUSION, main)

    def test_the_wrong_side(self):
        for rule in RULES:
            main = self.MAIN[rule]
            if main is not None and rule not in ("cut", "weak_middle"):
                for logic in logics_of(rule):
                    left, right = self.CONCLUSION
                    if rule == "axiom" or rule.endswith("_left") or rule == "reflexive":
                        self.fails(logic, rule, (tuple(a for a in left if a != main), right), main)
                    if rule in ("axiom", "modal") or rule.endswith("_right"):
                        self.fails(logic, rule, (left, tuple(a for a in right if a != main)), main)

    def test_another_sign(self):
        for rule in RULES:
            main = self.MAIN[rule]
            if main is not None and rule not in ("cut", "axiom"):
                for logic in logics_of(rule):
                    for a in (P, F, land(P, Q), lor(P, Q), to(P, Q), box(P), box(Q)):
                        if a[0] != main[0]:
                            both = sequent([*self.CONCLUSION[0], a], [*self.CONCLUSION[1], a])
                            self.fails(logic, rule, both, a)


class Signs(Case):
    def test_axiom(self):
        for logic in ALL:
            self.fits(logic, "axiom", sequent([P], [P]), P)
            self.fits(logic, "axiom", sequent([P, land(P, Q)], [R, land(P, Q)]), land(P, Q))
            self.fits(logic, "axiom", sequent([F], [F]), F)
            self.fails(logic, "axiom", sequent([P], [Q]), P)
            self.fails(logic, "axiom", sequent([P], [Q]), Q)
            self.fails(logic, "axiom", sequent([P], [P]), Q)
            self.fails(logic, "axiom", sequent([], []), P)

    def test_falsum(self):
        for logic in ALL:
            self.fits(logic, "falsum", sequent([F, P], [Q]), None)
            self.fails(logic, "falsum", sequent([P], [F]), None)
            self.fails(logic, "falsum", sequent([verum()], []), None)
            self.fails(logic, "falsum", sequent([F], []), F)

    def test_and(self):
        a = land(P, Q)
        for logic in ALL:
            self.fits(logic, "and_left", sequent([a, R], [S]), a, sequent([a, P, Q, R], [S]))
            self.fits(logic, "and_right", sequent([R], [a, S]), a, sequent([R], [a, P, S]), sequent([R], [a, Q, S]))

    def test_or(self):
        a = lor(P, Q)
        for logic in ALL:
            self.fits(logic, "or_left", sequent([a, R], [S]), a, sequent([a, P, R], [S]), sequent([a, Q, R], [S]))
            self.fits(logic, "or_right", sequent([R], [a, S]), a, sequent([R], [a, P, Q, S]))

    def test_implies_left(self):
        a = to(P, Q)
        for logic in ALL:
            self.fits(logic, "implies_left", sequent([a, R], [S]), a, sequent([a, R], [P, S]), sequent([a, Q, R], [S]))
            self.fits(logic, "implies_left", sequent([neg(P)], []), neg(P), sequent([neg(P)], [P]), sequent([neg(P), F], []))

    def test_implies_right(self):
        a = to(P, Q)
        for logic in ALL:
            if logic in ALONE:
                self.fits(logic, "implies_right", sequent([R], [a, S]), a, sequent([P, R], [Q]))
                self.fits(logic, "implies_right", sequent([], [neg(P), to(Q, R), S]), neg(P), sequent([P], [F]))
            else:
                self.fits(logic, "implies_right", sequent([R], [a, S]), a, sequent([P, R], [a, Q, S]))
                whole = sequent([], [neg(P), to(Q, R), S])
                self.fits(logic, "implies_right", whole, neg(P), sequent([P], [neg(P), F, to(Q, R), S]))

    def test_what_is_there_already(self):
        a, b, c = land(P, Q), lor(P, Q), to(P, Q)
        for logic in ALL:
            self.fits(logic, "and_left", sequent([a, P, Q], []), a, sequent([a, P, Q], []))
            self.fits(logic, "and_left", sequent([land(P, P)], []), land(P, P), sequent([land(P, P), P], []))
            self.fits(logic, "and_right", sequent([], [a, P]), a, sequent([], [a, P]), sequent([], [a, P, Q]))
            self.fits(logic, "or_left", sequent([b, Q], []), b, sequent([b, P, Q], []), sequent([b, Q], []))
            self.fits(logic, "or_right", sequent([], [b, P, Q]), b, sequent([], [b, P, Q]))
            self.fits(logic, "implies_left", sequent([c, Q], [P]), c, sequent([c, Q], [P]), sequent([c, Q], [P]))
            self.fits(logic, "cut", sequent([P], [Q]), P, sequent([P], [P, Q]), sequent([P], [Q]))
            alone = sequent([P], [Q]) if logic in ALONE else sequent([P], [c, Q])
            self.fits(logic, "implies_right", sequent([P], [c, Q]), c, alone)

    def test_cut(self):
        for logic in ALL:
            for a in (P, R, F, land(P, to(Q, R)), neg(neg(P))):
                self.fits(logic, "cut", sequent([P], [Q]), a, sequent([P], [Q, a]), sequent([P, a], [Q]))
            self.fits(logic, "cut", sequent([], []), P, sequent([], [P]), sequent([P], []))
        for a in (box(P), to(P, box(Q)), neg(neg(box(F)))):
            for logic in MODAL:
                self.fits(logic, "cut", sequent([P], [Q]), a, sequent([P], [Q, a]), sequent([P, a], [Q]))
            for logic in INTERMEDIATE:
                self.fails(logic, "cut", sequent([P], [Q]), a)


class Boxes(Case):
    LEFT = [box(P), box(box(Q)), R, to(P, box(S)), land(box(R), P)]
    RIGHT = [box(S), box(R), Q, lor(box(P), P)]

    def test_reflexive(self):
        for logic in ONLY_IN["reflexive"]:
            self.fits(logic, "reflexive", sequent([box(P)], [Q]), box(P), sequent([box(P), P], [Q]))
            self.fits(logic, "reflexive", sequent([box(P), P], []), box(P), sequent([box(P), P], []))
            self.fits(logic, "reflexive", sequent([box(box(P))], []), box(box(P)), sequent([box(box(P)), box(P)], []))

    def test_modal(self):
        inner, boxed = [P, box(Q)], [box(P), box(box(Q))]
        wanted = {
            "K": (inner, [S]), "D": (inner, [S]), "T": (inner, [S]), "K4": (inner + boxed, [S]),
            "D4": (inner + boxed, [S]), "S4": (boxed, [S]), "S5": (boxed, [S, box(S), box(R)]),
            "GL": (inner + boxed + [box(S)], [S]), "Grz": (boxed + [box(to(S, box(S)))], [S]),
        }
        for logic in MODAL:
            premise = sequent(*wanted[logic])
            self.fits(logic, "modal", sequent(self.LEFT, self.RIGHT), box(S), premise)

    def test_modal_without_boxes_on_the_left(self):
        added = {"GL": [box(P)], "Grz": [box(to(P, box(P)))]}
        for logic in MODAL:
            right = [P, box(P)] if logic == "S5" else [P]
            self.fits(logic, "modal", sequent([P, Q], [box(P), R]), box(P), sequent(added.get(logic, []), right))

    def test_modal_with_boxes_inside(self):
        a = box(box(P))
        for logic in MODAL:
            left = {"K": [P], "D": [P], "T": [P], "K4": [P, box(P)], "D4": [P, box(P)]}.get(logic, [box(P)])
            left = left + {"GL": [P, a], "Grz": [box(to(box(P), a))]}.get(logic, [])
            right = [box(P), a] if logic == "S5" else [box(P)]
            self.fits(logic, "modal", sequent([box(P)], [a]), a, sequent(left, right))

    def test_modal_with_the_main_formula_on_both_sides(self):
        self.fits("GL", "modal", sequent([box(P)], [box(P)]), box(P), sequent([P, box(P)], [P]))
        self.fits("S5", "modal", sequent([box(P)], [box(P)]), box(P), sequent([box(P)], [P, box(P)]))

    def test_modal_needs_a_box_on_the_right(self):
        for logic in MODAL:
            self.fails(logic, "modal", sequent([box(P)], [P]), box(P))
            self.fails(logic, "modal", sequent([box(P)], [box(Q)]), box(P))
            self.fails(logic, "modal", sequent([], [neg(box(P))]), box(P))
            self.fails(logic, "modal", sequent([], [neg(box(P))]), neg(box(P)))

    def test_serial(self):
        conclusion = sequent(self.LEFT, self.RIGHT)
        self.fits("D", "serial", conclusion, None, sequent([P, box(Q)], []))
        self.fits("D4", "serial", conclusion, None, sequent([P, box(Q), box(P), box(box(Q))], []))
        for logic in ("D", "D4"):
            self.fits(logic, "serial", sequent([P], [Q]), None, sequent([], []))
            self.fits(logic, "serial", sequent([], []), None, sequent([], []))
        self.fits("D", "serial", sequent([box(P), box(box(P))], []), None, sequent([P, box(P)], []))


class Intermediate(Case):
    def test_weak_middle(self):
        for a in (P, F, to(P, Q), neg(P), lor(P, land(Q, R))):
            self.fits("KC", "weak_middle", sequent([P], [Q]), weak(a), sequent([P, weak(a)], [Q]))
        self.fits("KC", "weak_middle", sequent([weak(P)], []), weak(P), sequent([weak(P)], []))
        self.fits("KC", "weak_middle", sequent([], [weak(P)]), weak(P), sequent([weak(P)], [weak(P)]))

    def test_near_weak_middles(self):
        near = (
            middle(P), lor(neg(neg(P)), neg(P)), lor(neg(P), neg(neg(Q))), lor(neg(P), neg(P)), neg(P), neg(neg(P)),
            land(neg(P), neg(neg(P))), to(neg(P), neg(neg(P))), lor(P, neg(neg(P))), lor(to(P, Q), to(to(P, Q), Q)),
            lor(to(P, Q), neg(to(P, Q))), lor(neg(P), neg(neg(neg(P)))), lor(neg(P), to(neg(P), P)), lor(P, P), P, F,
            weak(box(P)), weak(to(P, box(F))), lor(neg(P), lor(neg(neg(P)), F)), lor(neg(F), neg(F)),
        )
        for a in near:
            self.fails("KC", "weak_middle", sequent([P], [Q]), a)
            self.fails("KC", "weak_middle", sequent([a], [a]), a)

    def test_linear_right(self):
        a, b, c = to(P, Q), to(Q, R), neg(S)
        self.fits("LC", "linear_right", sequent([S], [a]), None, sequent([S, P], [Q]))
        self.fits("LC", "linear_right", sequent([S], [a, P, lor(P, Q)]), None, sequent([S, P], [Q]))
        # In order: neg(S) = S -> F, P -> Q, Q -> R.
        ordered = sorted([a, b, c])
        premises = [sequent([R, m[1]], [m[2]] + [n for n in ordered if n != m]) for m in ordered]
        self.fits("LC", "linear_right", sequent([R], [P, c, b, a]), None, *premises)
        self.assertEqual(ordered, [a, b, c])

    def test_linear_right_with_implications_inside(self):
        a = to(P, to(Q, R))
        b = to(Q, R)
        self.fits("LC", "linear_right", sequent([], [a, b]), None, sequent([P], [b]), sequent([Q], [R, a]))
        self.fits("LC", "linear_right", sequent([P], [to(P, P)]), None, sequent([P], [P]))

    def test_no_implication_on_the_right(self):
        for logic, rule in (("LC", "linear_right"), ("HT", "two_right")):
            for conclusion in (sequent([], []), sequent([to(P, Q)], [P]), sequent([], [lor(to(P, Q), P)])):
                self.fails(logic, rule, conclusion, None)

    def test_depth_right(self):
        a = to(P, Q)
        whole = sequent([S], [a, land(R, F)])
        decided = [S, P, middle(P), middle(Q), middle(R), middle(S)]
        first = sequent([S, P], [a, Q, land(R, F)])
        self.fits("BD2", "depth_right", whole, a, first, sequent(decided, [Q]))
        self.fits("BD2", "depth_right", sequent([], [neg(F)]), neg(F), sequent([F], [neg(F), F]), sequent([F], [F]))
        there = sequent([P, middle(P), middle(Q)], [Q, a])
        self.fits("BD2", "depth_right", there, a, there, sequent([P, middle(P), middle(Q)], [Q]))

    def test_two_right(self):
        a, b = to(P, Q), to(Q, R)
        whole = sequent([S], [b, a, land(P, F)])
        decided = [S, middle(P), middle(Q), middle(R), middle(S)]
        self.fits(
            "HT", "two_right", whole, None, sequent([S, P], [a, b, Q, land(P, F)]), sequent([S, Q], [a, b, R, land(P, F)]),
            sequent(decided, [a, b]),
        )
        self.fits("HT", "two_right", sequent([], [neg(P)]), None, sequent([P], [neg(P), F]), sequent([middle(P)], [neg(P)]))
        self.fits("HT", "two_right", sequent([], [neg(F), P]), None, sequent([F], [neg(F), F, P]), sequent([middle(P)], [neg(F)]))

    def test_arguments_stay(self):
        whole = sequent([S], [to(P, Q), neg(R)])
        for logic, rule in (("LC", "linear_right"), ("HT", "two_right")):
            premises_of(logic, rule, whole, None).clear()
            self.assertTrue(premises_of(logic, rule, whole, None))


class Soundness(unittest.TestCase):
    """If the conclusion is refuted at a world, a premise is refuted at some world."""

    def sides(self, dice, logic, rule):
        plain = logic in INTERMEDIATE
        left = [mixed_formula(dice, 3, plain) for _ in range(dice.below(3))]
        right = [mixed_formula(dice, 3, plain) for _ in range(dice.below(3))]
        a, b = mixed_formula(dice, 3, plain), mixed_formula(dice, 2, plain)
        sign = rule.split("_")[0]
        main = None
        if rule in ("cut", "weak_middle"):
            main = weak(a) if rule == "weak_middle" else a
        elif sign in ("and", "or", "implies", "depth"):
            main = ("implies" if sign == "depth" else sign, a, b)
            (left if rule.endswith("left") else right).append(main)
        elif rule in ("reflexive", "modal"):
            main = box(a)
            (left if rule == "reflexive" else right).append(main)
            left += [box(b)]
            right += [box(mixed_formula(dice, 2))][:dice.below(2)]
        elif rule in ("linear_right", "two_right"):
            right = right[:1] + [to(P, b), to(b, mixed_formula(dice, 2, plain))]
        elif rule == "serial":
            left += [box(a), box(b)]
        return sequent(left, right), main

    def refuted(self, logic, model, value):
        worlds = list(range(model.frame()[0]))
        for k, side in enumerate(value):
            for a in side:
                good = holds(logic, model, a)
                worlds = [v for v in worlds if (v in good) == (k == 0)]
        return worlds

    def test_each_rule_in_each_logic(self):
        dice = Dice(41)
        for logic in ALL:
            models = [mixed_model_of(dice, logic, 1 + k % 5, "pqr") for k in range(30)]
            self.assertTrue(all(is_model_of(logic, model) for model in models))
            for rule in RULES:
                if logic in logics_of(rule) and rule not in ("axiom", "falsum"):
                    met = 0
                    for _ in range(300):
                        conclusion, main = self.sides(dice, logic, rule)
                        premises = premises_of(logic, rule, conclusion, main)
                        for model in [model for model in models if self.refuted(logic, model, conclusion)]:
                            met += 1
                            self.assertTrue(
                                any(self.refuted(logic, model, premise) for premise in premises),
                                (logic, rule, conclusion, main, model.frame(), model.true_worlds()),
                            )
                        if met > 60:
                            break
                    self.assertGreater(met, 4, (logic, rule))

    def test_closed_sequents_are_refuted_nowhere(self):
        dice = Dice(42)
        for logic in ALL:
            for k in range(30):
                model = mixed_model_of(dice, logic, 1 + k % 4)
                a = mixed_formula(dice, 4, logic in INTERMEDIATE)
                self.assertEqual(self.refuted(logic, model, sequent([a, P], [a, Q])), [])
                self.assertEqual(self.refuted(logic, model, sequent([F, a], [Q])), [])
