import itertools
import time
import unittest

from elsewhere.decision import decide_formula, equivalent
from elsewhere.derivation import derives, first_wrong
from elsewhere.errors import HasVariables, NotGuarded, TooMany
from elsewhere.formula import boxes, dia, iff, modal_depth, neg, subformulas, substitute, variables, verum
from elsewhere.model import Model, truth
from elsewhere.provability import box_power, fixed_point, normal_form, of_ranks, rank_list, true_at_rank
from elsewhere.text import parse, show
from tests.samples import F, P, Q, R, Dice, box, land, lor, mixed_model_of, to, tower

FALSITY_AND_BOXES = ("falsum", "box", "and", "or", "implies")


def closed_formula(dice, height):
    """A formula without variables, of a height of at most `height`."""
    kind = dice.below(7)
    if height == 1 or kind == 0:
        return F
    if kind > 4:
        return box(closed_formula(dice, height - 1))
    if kind == 4:
        return to(closed_formula(dice, height - 1), F)
    return (("and", "or", "implies")[kind - 1], closed_formula(dice, height - 1), closed_formula(dice, height - 1))


def descending(worlds):
    """The model of GL in which each world sees those with smaller numbers, so that its number is its rank."""
    return Model((worlds, tuple((v, w) for v in range(worlds) for w in range(v))), {})


def ranks_of(model):
    """The dict from each world of a model of GL to its rank."""
    ranks = {}

    def rank(v):
        if v not in ranks:
            ranks[v] = max([rank(w) + 1 for w in model.seen(v)], default=0)
        return ranks[v]

    for v in range(model.frame()[0]):
        rank(v)
    return ranks


class Ranks(unittest.TestCase):
    def test_in_a_chain(self):
        dice = Dice(901)
        for _ in range(300):
            a = closed_formula(dice, 1 + dice.below(7))
            depth = modal_depth(a)
            true = truth(descending(depth + 7), a)
            answers = [true_at_rank(a, rank) for rank in range(depth + 7)]
            self.assertEqual(answers, [rank in true for rank in range(depth + 7)], show(a))
            self.assertTrue(all(type(answer) is bool for answer in answers))
            self.assertEqual(true_at_rank(a, 10 ** 40), depth in true)
            found = rank_list(a)
            self.assertIs(type(found), list)
            self.assertEqual(found, answers[:depth + 1])
            self.assertTrue(all(type(answer) is bool for answer in found))

    def test_in_models(self):
        dice = Dice(902)
        for _ in range(150):
            a = closed_formula(dice, 6)
            model = mixed_model_of(dice, "GL", 1 + dice.below(7))
            true = truth(model, a)
            for v, rank in ranks_of(model).items():
                self.assertEqual(true_at_rank(a, rank), v in true, show(a))

    def test_simple_ones(self):
        self.assertEqual(rank_list(F), [False])
        self.assertEqual(rank_list(verum()), [True])
        self.assertEqual(rank_list(box(F)), [True, False])
        self.assertEqual(rank_list(neg(box(F))), [False, True])
        self.assertEqual(rank_list(box(box(F))), [True, True, False])
        self.assertEqual(rank_list(dia(verum())), [False, True])
        self.assertEqual(rank_list(box(verum())), [True, True])
        self.assertEqual(rank_list(parse("[]F -> [][]F & F")), [False, True, True])
        self.assertIs(true_at_rank(parse("~[]F"), 0), False)
        self.assertIs(true_at_rank(parse("[](~[]F -> F)"), 1), True)
        self.assertIs(true_at_rank(parse("[](~[]F -> F)"), 2), False)

    def test_validity(self):
        dice = Dice(903)
        seen = set()
        for _ in range(150):
            a = closed_formula(dice, 6)
            seen.add(all(rank_list(a)))
            self.assertEqual(all(rank_list(a)), decide_formula("GL", a).is_valid(), show(a))
        self.assertEqual(seen, {True, False})

    def test_high_formulas(self):
        a = tower(box, 59, F)
        self.assertEqual(rank_list(a), [True] * 59 + [False])
        self.assertEqual(rank_list(tower(lambda b: iff(b, box(b)), 19, F))[0], False)
        self.assertIs(true_at_rank(a, 58), True)
        self.assertIs(true_at_rank(a, 59), False)

    def test_variables(self):
        for text in ("p", "F & p", "F -> p", "p & F", "p -> T", "T | p", "p -> p", "[]p", "T | []p", "[]T | [](F & p)",
                     "F & [](F & p)", "F -> [][]q", "T | ~(p & F)", "[](p -> p)"):
            for call in (rank_list, normal_form, lambda a: true_at_rank(a, 0), lambda a: true_at_rank(a, 12)):
                with self.assertRaises(HasVariables, msg=text) as caught:
                    call(parse(text))
                self.assertIs(type(caught.exception), HasVariables)

    def test_new_lists(self):
        a = parse("[]F")
        found = rank_list(a)
        found.append(True)
        found[0] = False
        self.assertEqual(rank_list(a), [True, False])


class NormalForms(unittest.TestCase):
    def test_box_power(self):
        a = F
        for n in range(41):
            self.assertEqual(box_power(n), a)
            self.assertEqual(truth(descending(45), a), list(range(n)))
            a = box(a)

    def check_shape(self, a):
        self.assertEqual(variables(a), [])
        powers = [box_power(n) for n in range(1, 12)]
        for b in subformulas(a):
            self.assertIn(b[0], FALSITY_AND_BOXES)
        for b in boxes(a):
            self.assertIn(b, powers)

    def test_of_ranks(self):
        for many in range(1, 10):
            for answers in itertools.product((True, False), repeat=many):
                given = list(answers)
                a = of_ranks(given)
                self.assertEqual(given, list(answers))
                wanted = [rank for rank in range(many + 5) if answers[min(rank, many - 1)]]
                self.assertEqual(truth(descending(many + 5), a), wanted, answers)
                self.check_shape(a)

    def test_of_ranks_of_simple_lists(self):
        for answers in ([True], [True, True, True]):
            self.assertEqual(of_ranks(answers), verum())
        for answers in ([False], [False, False]):
            self.assertEqual(of_ranks(answers), F)

    def test_normal_forms(self):
        dice = Dice(904)
        for _ in range(150):
            a = closed_formula(dice, 1 + dice.below(7))
            b = normal_form(a)
            self.assertEqual(b, of_ranks(rank_list(a)))
            self.check_shape(b)
            self.assertTrue(equivalent("GL", a, b), show(a))

    def test_equivalent_formulas_of_one_depth_have_one_normal_form(self):
        for first, second in (("[]F & [][]F", "[]F & [](T -> []F)"), ("~[]F", "<>T"), ("[]([]F -> F)", "[]F & [][]T")):
            self.assertEqual(normal_form(parse(first)), normal_form(parse(second)))


# Formulas in which p stands inside one outermost box, with a fixed point where it is known.
ONE_BOX = {
    "[]p": "T", "~[]p": "~[]F", "[]~p": "[]F", "~[]~p": "F", "[](p -> q)": "[]q", "[]p -> q": "[]q -> q",
    "q & []p": "q & []q", "q | []~p": "q | []F", "q -> [](p & r)": None, "[](q & (p -> r))": None, "[](p & q -> r)": None,
    "[][]p": None, "[]([]p -> q)": None, "[](p & []p)": None, "[](p | ~[]p)": None, "~[][]~[]p": None,
    "[](p <-> q)": None, "q <-> [](p <-> r)": None, "[]p & ([]p -> q)": None, "[]p | ~[]p": None,
    "[](p & p | p)": None, "[](p -> []p -> p)": None, "[]q & []r -> []p": None, "[]q <-> [](p <-> []q)": None,
    "[]~p & q | ~[]~p & r": None, "[][][]p -> r": None, "<>p": "F", "<>(p & q)": None, "[]<>p": None,
    "[]([](p & q) -> []p)": None,
}

# Formulas in which it stands inside two.
TWO_BOXES = (
    "[]p & []~p", "[]p -> []~p", "[]p | [](p -> q)", "[](p & q) & [](p -> r)", "q & ([]p -> []~p)", "[]p & [][]p",
    "[]p <-> []~p", "~[]p | <>p", "[]p -> [](q -> p)", "[][]p & []~[]p", "([]p -> q) & ([]~p -> r)", "<>p & ~[]p",
    "[](p -> q) & [](q -> p)", "[]p & ([]p -> []~p) | []~p", "[]([]p -> q) -> []p", "[](p | q) <-> [](p | r)",
    "q & []p | r & ~[]~~p", "[]q | []p | []~p",
)

# And formulas in which it stands inside three or more.
MORE_BOXES = (
    "[]p & []~p & [][]p", "[]p | ([]~p | []~~p)", "[](p & q) & [](p & r) & [](p -> q)", "[]p -> []~p -> [](q & p) -> r",
    "<>p & []p & [][]p & []<>p",
)


class FixedPoints(unittest.TestCase):
    def fixed(self, a, name="p"):
        """The fixed point of a formula, after a look at it and at its derivation."""
        found = fixed_point(a, name)
        self.assertIs(type(found), tuple)
        f, steps = found
        self.assertIs(type(steps), list)
        self.assertNotIn(name, variables(f), show(a))
        self.assertLessEqual(set(variables(f)), set(variables(a)), show(a))
        goal = ((), (iff(f, substitute(a, {name: f})),))
        self.assertEqual(first_wrong("GL", steps), -1, show(a))
        self.assertIs(derives("GL", steps, goal), True, show(a))
        return f

    def test_one_box(self):
        for text, known in ONE_BOX.items():
            f = self.fixed(parse(text))
            if known is not None:
                self.assertTrue(equivalent("GL", f, parse(known)), text)

    def test_two_boxes(self):
        for text in TWO_BOXES:
            self.fixed(parse(text))

    def test_the_variable_does_not_occur(self):
        for text in ("q", "F", "T", "[]q", "[]q & []r & []~q & <>q", "q -> r & T", "[][]F"):
            self.assertTrue(equivalent("GL", self.fixed(parse(text)), parse(text)), text)

    def test_other_names(self):
        self.fixed(parse("[]q -> p"), "q")
        self.fixed(parse("[](long12 & p)"), "long12")
        self.fixed(parse("q & []p"), "r")

    def test_not_guarded(self):
        for text in ("p", "p & []p", "[]p -> p", "~p", "q | (p & T)", "[](q -> p) & (r -> p)", "[]p & p & [][]p & []~p"):
            with self.assertRaises(NotGuarded, msg=text):
                fixed_point(parse(text), "p")

    def test_not_guarded_comes_first(self):
        for text in MORE_BOXES:
            with self.assertRaises(NotGuarded, msg=text):
                fixed_point(land(parse(text), P), "p")

    def test_too_many(self):
        for text in MORE_BOXES:
            with self.assertRaises(TooMany, msg=text):
                fixed_point(parse(text), "p")

    def test_boxes_that_do_not_count(self):
        for text in ("[]p & []p & []p", "[]p & []q & []r & []~q", "[]p & [](q & r) & []~p & [][]q & []~p",
                     "[]([]p & []~p & [][]p)", "[]([]p & []q) -> []([]p & []~p & [](p & q))", "[]p | []p & []~p | []~p"):
            self.fixed(parse(text))

    def test_drawn_formulas(self):
        dice = Dice(905)

        def inside(height):
            kind = dice.below(7)
            if height == 1 or kind == 0:
                return (P, P, Q, R, F)[dice.below(5)]
            if kind > 4:
                return box(inside(height - 1))
            return (("and", "or", "implies", "implies")[kind - 1], inside(height - 1), inside(height - 1))

        def outside(height, given):
            kind = dice.below(5)
            if height == 1 or kind == 0:
                return given[dice.below(len(given))]
            if kind == 4:
                return to(outside(height - 1, given), F)
            return (("and", "or", "implies")[kind - 1], outside(height - 1, given), outside(height - 1, given))

        for _ in range(150):
            given = [box(inside(4)) for _ in range(1 + dice.below(2))] + [Q, R, box(Q)][:dice.below(4)]
            self.fixed(outside(4, given))

    def test_great_formulas_are_done_in_a_moment(self):
        begun = time.process_time()
        a = P
        for k in range(12):
            a = iff(("var", f"q{k}"), a)
        self.fixed(box(a))
        self.fixed(to(box(a), box(neg(a))))
        for step in (box, lambda b: box(neg(b)), lambda b: box(to(b, Q))):
            b = tower(step, 24)
            self.fixed(b)
            self.fixed(land(b, box(to(Q, P))))
        self.assertLess(time.process_time() - begun, 20)


class Uniqueness(unittest.TestCase):
    def test_two_ways_to_write_a_formula(self):
        for first, second in (
            ("[]p", "[](p & p)"), ("~[]p", "<>~p"), ("[](p -> q)", "[](~q -> ~p)"), ("[]p & []q", "[](p & q)"),
            ("[]p -> q", "q | ~[]p"), ("[](p & q) & [](p & r)", "[](q & p & r)"), ("[]p & [][]p", "[]p"),
            ("[]([]p -> p)", "[]p"), ("~[]~p", "<>p"), ("[]p & []~p", "[]F"), ("[]p & []~p", "[](p & ~p)"),
            ("q & ([]p -> []~p)", "q & ~([]p & <>p)"), ("[](p | q) & []r", "[]((q | p) & r)"),
        ):
            f, _ = fixed_point(parse(first), "p")
            g, _ = fixed_point(parse(second), "p")
            self.assertTrue(equivalent("GL", f, g), (first, second))

    def test_in_models(self):
        dice = Dice(906)
        agreeing = 0
        for text in [*ONE_BOX, *TWO_BOXES]:
            a = parse(text)
            f, _ = fixed_point(a, "p")
            for _ in range(6):
                model = self.drawn_with_agreement(dice, a)
                same, true, fixed = model.true_worlds().get("p", []), truth(model, a), truth(model, f)
                for v in range(model.frame()[0]):
                    around = [v, *model.seen(v)]
                    if all((w in same) == (w in true) for w in around):
                        agreeing += 1
                        self.assertEqual(v in same, v in fixed, text)
        self.assertGreater(agreeing, 500)

    def drawn_with_agreement(self, dice, a):
        """A model of GL in which p often agrees with a formula: it is set along the ranks, and now and then set wrong."""
        model = mixed_model_of(dice, "GL", 1 + dice.below(6), "pqr")
        frame, values = model.frame(), model.true_worlds()
        ranks = ranks_of(model)
        for v in sorted(range(frame[0]), key=lambda w: ranks[w]):
            others = [w for w in values.get("p", []) if w != v]
            values["p"] = others
            if (v in truth(Model(frame, values), a)) != (dice.below(8) == 0):
                values["p"] = [*others, v]
        return Model(frame, values)
