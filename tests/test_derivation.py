import unittest

from elsewhere.derivation import (
    conclusion_of, count_rule, derives, first_wrong, is_analytic, is_derivation, joined, pruned,
)
from elsewhere.errors import NoFit, UnknownLogic
from elsewhere.formula import neg, verum
from elsewhere.logics import INTERMEDIATE, MODAL
from elsewhere.sequent import sequent
from tests.samples import F, P, Q, R, box, doubled_tower, land, lor, to

ALL = MODAL + INTERMEDIATE
AXIOM = ("axiom", sequent([P], [P]), P, ())


def axiom(a, left=(), right=()):
    return ("axiom", sequent([a, *left], [a, *right]), a, ())


# p & q => q & p, right in each logic.
SWAPPED = [
    ("axiom", sequent([P, Q, land(P, Q)], [Q, land(Q, P)]), Q, ()),
    ("axiom", sequent([P, Q, land(P, Q)], [P, land(Q, P)]), P, ()),
    ("and_right", sequent([P, Q, land(P, Q)], [land(Q, P)]), land(Q, P), (0, 1)),
    ("and_left", sequent([land(P, Q)], [land(Q, P)]), land(P, Q), (2,)),
]


def changed(steps, k, **parts):
    names = ("rule", "conclusion", "main", "numbers")
    step = tuple(parts.get(name, steps[k][n]) for n, name in enumerate(names))
    return steps[:k] + [step] + steps[k + 1:]


class FirstWrong(unittest.TestCase):
    def test_empty(self):
        for logic in ALL:
            self.assertEqual(first_wrong(logic, []), -1)
            self.assertIs(is_derivation(logic, []), False)
            self.assertIs(derives(logic, [], sequent([], [])), False)

    def test_right_derivations(self):
        for logic in ALL:
            for steps in ([AXIOM], SWAPPED, SWAPPED[:1], SWAPPED[:3]):
                self.assertEqual(first_wrong(logic, steps), -1)
                self.assertIs(is_derivation(logic, steps), True)

    def test_numbers_out_of_range(self):
        for numbers in ((-1, 1), (0, -4), (2, 1), (0, 2), (0, 3), (3, 1), (0, 4), (0, 10 ** 30)):
            self.assertEqual(first_wrong("K", changed(SWAPPED, 2, numbers=numbers)), 2, numbers)
        for number in (-1, -2, 3, 4, 100):
            self.assertEqual(first_wrong("Int", changed(SWAPPED, 3, numbers=(number,))), 3, number)
        # Counted from the end, -1 would be the step that is due.
        self.assertEqual(first_wrong("K", [AXIOM, ("weaken", AXIOM[1], None, (-1,))]), 1)
        self.assertEqual(first_wrong("K", [("weaken", AXIOM[1], None, (0,))]), 0)
        self.assertEqual(first_wrong("K", [("weaken", AXIOM[1], None, (1,)), AXIOM]), 0)

    def test_numbers_missing_too_many_or_exchanged(self):
        for numbers in ((), (0,), (1,), (1, 0), (0, 0), (1, 1), (0, 1, 1), (0, 1, 0)):
            self.assertEqual(first_wrong("K", changed(SWAPPED, 2, numbers=numbers)), 2, numbers)
        for numbers in ((), (1,), (0,), (2, 2)):
            self.assertEqual(first_wrong("HT", changed(SWAPPED, 3, numbers=numbers)), 3, numbers)
        self.assertEqual(first_wrong("K", [AXIOM, ("axiom", AXIOM[1], P, (0,))]), 1)

    def test_main_formulas(self):
        for k, main in ((0, None), (0, P), (1, None), (2, None), (2, land(P, Q)), (3, None), (3, land(Q, P)), (3, P)):
            self.assertEqual(first_wrong("S4", changed(SWAPPED, k, main=main)), k)
        good = ("falsum", sequent([F], []), None, ())
        self.assertEqual(first_wrong("K", [good]), -1)
        self.assertEqual(first_wrong("K", [changed([good], 0, main=F)[0]]), 0)
        serial = [("falsum", sequent([F], []), None, ()), ("serial", sequent([box(F)], []), None, (0,))]
        self.assertEqual(first_wrong("D", serial), -1)
        self.assertEqual(first_wrong("K", serial), 1)
        self.assertEqual(first_wrong("D", changed(serial, 1, main=box(F))), 1)

    def test_other_conclusions(self):
        self.assertEqual(first_wrong("K", changed(SWAPPED, 0, conclusion=sequent([P, land(P, Q)], [Q, land(Q, P)]))), 0)
        self.assertEqual(first_wrong("K", changed(SWAPPED, 2, conclusion=sequent([P, Q], [land(Q, P)]))), 2)
        self.assertEqual(first_wrong("K", changed(SWAPPED, 3, conclusion=sequent([land(P, Q)], [land(Q, P), R]))), 3)

    def test_the_first_one_is_named(self):
        steps = changed(changed(SWAPPED, 1, main=Q), 3, numbers=())
        self.assertEqual(first_wrong("K", steps), 1)
        self.assertEqual(first_wrong("K", [AXIOM] + changed(SWAPPED, 2, rule="nothing")), 3)

    def test_rules_that_do_not_exist(self):
        for rule in ("", "Axiom", "weaken ", "weakening", "implies", "nothing"):
            self.assertEqual(first_wrong("K", [AXIOM, (rule, AXIOM[1], P, ())]), 1)
            self.assertEqual(first_wrong("K", [AXIOM, (rule, AXIOM[1], None, (0,))]), 1)
            self.assertIs(is_derivation("K", [(rule, AXIOM[1], P, ())]), False)

    def test_rules_of_other_logics(self):
        steps = [axiom(P, [box(P)]), ("reflexive", sequent([box(P)], [P]), box(P), (0,))]
        for logic in ALL:
            wanted = -1 if logic in ("T", "S4", "S5", "Grz") else 0 if logic in INTERMEDIATE else 1
            self.assertEqual(first_wrong(logic, steps), wanted, logic)

    def test_boxes_in_intermediate_logics(self):
        for conclusion in (([P, box(P)], [P]), ([P], [P, to(P, box(Q))]), ([P, land(P, lor(Q, neg(box(F))))], [P])):
            for logic in ALL:
                wanted = 0 if logic in INTERMEDIATE else -1
                self.assertEqual(first_wrong(logic, [("axiom", sequent(*conclusion), P, ())]), wanted)
        weak = [AXIOM, ("weaken", sequent([P], [P, box(P)]), None, (0,))]
        self.assertEqual(first_wrong("Int", weak), 1)
        self.assertEqual(first_wrong("K", weak), -1)
        cut = [axiom(P, [], [box(P)]), axiom(P, [box(P)]), ("cut", sequent([P], [P]), box(P), (0, 1))]
        self.assertEqual(first_wrong("K", cut), -1)
        self.assertEqual(first_wrong("Cl", cut), 0)

    def test_the_same_formula_many_times(self):
        a = doubled_tower(29)
        steps = [("axiom", sequent([a], [a, P]), a, ())] + [("axiom", sequent([a, P], [a]), a, ())] * 50
        self.assertEqual(first_wrong("Int", steps), -1)

    def test_unknown_logics(self):
        for logic in ("", "k", "S3", "INT", "weaken"):
            for steps in ([], [AXIOM], [("nothing", AXIOM[1], None, (7,))]):
                for call in (
                    lambda: first_wrong(logic, steps), lambda: is_derivation(logic, steps),
                    lambda: derives(logic, steps, AXIOM[1]),
                ):
                    with self.assertRaises(UnknownLogic):
                        call()

    def test_the_steps_stay(self):
        steps = list(SWAPPED)
        first_wrong("K", steps)
        is_derivation("K", steps)
        derives("K", steps, AXIOM[1])
        pruned(steps)
        count_rule(steps, "axiom")
        is_analytic(steps)
        conclusion_of(steps)
        self.assertEqual(steps, SWAPPED)


class Weaken(unittest.TestCase):
    FIRST = axiom(P, [Q], [R])

    def found(self, conclusion, main=None, numbers=(0,)):
        return [first_wrong(logic, [self.FIRST, ("weaken", conclusion, main, numbers)]) for logic in ("K", "Int", "Cl")]

    def test_right(self):
        for conclusion in (
            sequent([P, Q], [P, R]), sequent([F, P, Q], [P, R]), sequent([P, Q], [P, Q, R]),
            sequent([P, Q, R, neg(P)], [verum(), P, Q, R]),
        ):
            self.assertEqual(self.found(conclusion), [-1, -1, -1])

    def test_lost_formulas(self):
        for conclusion in (
            sequent([P], [P, R]), sequent([Q], [P, R]), sequent([P, Q], [P]), sequent([P, Q], [R]), sequent([], []),
            sequent([P, R], [P, Q]), sequent([P, land(P, Q)], [P, R]), sequent([P, R], [P, Q, R]), sequent([P, R], [P, R, Q]),
        ):
            self.assertEqual(self.found(conclusion), [1, 1, 1], conclusion)

    def test_form(self):
        good = sequent([P, Q], [P, R])
        self.assertEqual(self.found(good, numbers=()), [1, 1, 1])
        self.assertEqual(self.found(good, numbers=(0, 0)), [1, 1, 1])
        self.assertEqual(self.found(good, main=P), [1, 1, 1])
        self.assertEqual(first_wrong("K", [("weaken", sequent([], []), None, ())]), 0)


class Derives(unittest.TestCase):
    def test_conclusion(self):
        self.assertEqual(conclusion_of(SWAPPED), sequent([land(P, Q)], [land(Q, P)]))
        self.assertEqual(conclusion_of([AXIOM]), ((P,), (P,)))

    def test_wanted(self):
        for logic in ALL:
            self.assertIs(derives(logic, SWAPPED, sequent([land(P, Q)], [land(Q, P)])), True)
            for wanted in (
                sequent([land(Q, P)], [land(P, Q)]), sequent([land(P, Q)], []), sequent([], [land(Q, P)]),
                sequent([land(P, Q), P], [land(Q, P)]), SWAPPED[2][1], sequent([], []),
            ):
                self.assertIs(derives(logic, SWAPPED, wanted), False)

    def test_wrong_steps(self):
        wanted = conclusion_of(SWAPPED)
        for k in range(4):
            self.assertIs(derives("K", changed(SWAPPED, k, rule="nothing"), wanted), False)

    def test_each_special_rule(self):
        a, b = to(P, Q), to(Q, P)
        steps = [
            ("axiom", sequent([P, Q], [P]), P, ()),
            ("implies_right", sequent([P], [b, Q]), b, (0,)),
            ("axiom", sequent([P, Q], [Q]), Q, ()),
            ("implies_right", sequent([Q], [a, P]), a, (2,)),
            ("linear_right", sequent([], [a, b]), None, (1, 3)),
            ("weaken", sequent([], [a, b, lor(a, b)]), None, (4,)),
            ("or_right", sequent([], [lor(a, b)]), lor(a, b), (5,)),
        ]
        self.assertIs(derives("LC", steps, sequent([], [lor(a, b)])), True)
        self.assertEqual(first_wrong("Int", steps), 4)
        middle = [
            ("axiom", sequent([lor(neg(P), neg(neg(P)))], [lor(neg(P), neg(neg(P)))]), lor(neg(P), neg(neg(P))), ()),
            ("weak_middle", sequent([], [lor(neg(P), neg(neg(P)))]), lor(neg(P), neg(neg(P))), (0,)),
        ]
        self.assertIs(is_derivation("KC", middle), True)
        self.assertEqual(first_wrong("LC", middle), 1)


class Pruned(unittest.TestCase):
    def test_unused_steps(self):
        steps = [axiom(R), SWAPPED[0], axiom(Q), SWAPPED[1], ("and_right", *SWAPPED[2][1:3], (1, 3)), axiom(F)]
        steps.append(("and_left", *SWAPPED[3][1:3], (4,)))
        self.assertTrue(is_derivation("K", steps))
        found = pruned(steps)
        self.assertEqual(found, SWAPPED)
        self.assertIs(type(found), list)
        self.assertTrue(all(type(step) is tuple and type(step[3]) is tuple for step in found))

    def test_used_indirectly_and_twice(self):
        twice = [
            axiom(R), axiom(P, [], [land(P, P)]), axiom(Q),
            ("and_right", sequent([P], [land(P, P)]), land(P, P), (1, 1)),
            ("weaken", sequent([P, Q], [land(P, P)]), None, (3,)),
        ]
        self.assertEqual(first_wrong("K", twice), -1)
        self.assertEqual(pruned(twice), [
            twice[1], ("and_right", sequent([P], [land(P, P)]), land(P, P), (0, 0)),
            ("weaken", sequent([P, Q], [land(P, P)]), None, (1,)),
        ])

    def test_the_same_sequent_twice(self):
        steps = [AXIOM, AXIOM, ("weaken", sequent([P, Q], [P]), None, (1,)), ("weaken", sequent([P, R], [P]), None, (0,))]
        self.assertEqual(pruned(steps), [AXIOM, ("weaken", sequent([P, R], [P]), None, (0,))])

    def test_behind_the_last(self):
        self.assertEqual(pruned([axiom(Q), AXIOM]), [AXIOM])
        self.assertEqual(pruned(SWAPPED + [AXIOM]), [AXIOM])

    def test_pruned_of_pruned(self):
        steps = [AXIOM, *[("weaken", sequent([P, Q], [P]), None, (k // 2,)) for k in range(6)]]
        self.assertEqual(first_wrong("K", steps[:2]), -1)
        once = pruned(steps[:2] + [axiom(R)] + [("weaken", sequent([P, Q, R], [P]), None, (1,))])
        self.assertEqual(pruned(once), once)
        self.assertEqual(pruned(SWAPPED), SWAPPED)
        self.assertIsNot(pruned(SWAPPED), SWAPPED)


class Joined(unittest.TestCase):
    FIRST = [axiom(Q), ("weaken", sequent([P, Q], [Q, R, land(P, Q)]), None, (0,))]
    SECOND = [axiom(Q), ("weaken", sequent([P, Q, land(P, Q)], [Q, R]), None, (0,))]

    def test_renumbering(self):
        found = joined(self.FIRST, self.SECOND, land(P, Q))
        self.assertEqual(found, [
            *self.FIRST, self.SECOND[0], ("weaken", self.SECOND[1][1], None, (2,)),
            ("cut", sequent([P, Q], [Q, R]), land(P, Q), (1, 3)),
        ])
        self.assertIs(type(found), list)
        for logic in ALL:
            self.assertTrue(derives(logic, found, sequent([P, Q], [Q, R])))

    def test_long_derivations(self):
        first = SWAPPED
        second = [axiom(Q, [P, land(Q, P)]), ("and_left", sequent([land(Q, P)], [Q]), land(Q, P), (0,))]
        second.append(("weaken", sequent([land(P, Q), land(Q, P)], [Q]), None, (1,)))
        first = first + [("weaken", sequent([land(P, Q)], [Q, land(Q, P)]), None, (3,))]
        found = joined(first, second, land(Q, P))
        self.assertEqual([step[3] for step in found], [(), (), (0, 1), (2,), (3,), (), (5,), (6,), (4, 7)])
        self.assertTrue(derives("Int", found, sequent([land(P, Q)], [Q])))

    def test_empty_sides(self):
        first = [("falsum", sequent([F], [F]), None, ()), ("implies_right", sequent([], [verum()]), verum(), (0,))]
        second = [axiom(P), ("weaken", sequent([P, verum()], [P]), None, (0,))]
        self.assertTrue(is_derivation("Int", first))
        with self.assertRaises(NoFit):
            joined(first, second, verum())
        first.append(("weaken", sequent([P], [P, verum()]), None, (1,)))
        self.assertTrue(derives("Int", joined(first, second, verum()), sequent([P], [P])))

    def test_no_fit(self):
        def weaker(left, right):
            return [axiom(P), ("weaken", sequent(left, right), None, (0,))]
        a = land(P, Q)
        good = weaker([P], [P, a]), weaker([P, a], [P])
        self.assertEqual(len(joined(*good, a)), 5)
        wrong = [
            (*good, Q), (*good, P), (*good, F), (good[1], good[0], a), (good[0], good[0], a), (good[1], good[1], a),
            # The formula is in the sequent already.
            (weaker([P, a], [P, a]), weaker([P, a], [P]), a), (weaker([P], [P, a]), weaker([P, a], [P, a]), a),
            (weaker([P, a], [P, a]), weaker([P, a], [P, a]), a), (weaker([P], [P]), weaker([P], [P]), P),
            # The conclusions differ elsewhere.
            (weaker([P, Q], [P, a]), good[1], a), (good[0], weaker([P, Q, a], [P]), a),
            (weaker([P], [P, Q, a]), good[1], a), (good[0], weaker([P, a], [P, Q]), a),
            (weaker([P], [P]), good[1], a), (good[0], weaker([P], [P]), a), (weaker([P], [P]), weaker([P], [P]), a),
        ]
        for first, second, main in wrong:
            with self.assertRaises(NoFit, msg=(first[-1], second[-1], main)):
                joined(first, second, main)

    def test_arguments_stay(self):
        first, second = list(self.FIRST), list(self.SECOND)
        joined(first, second, land(P, Q)).clear()
        self.assertEqual((first, second), (self.FIRST, self.SECOND))
        steps = [axiom(R), *self.FIRST]
        pruned(steps).clear()
        self.assertEqual(steps, [axiom(R), *self.FIRST])


class Counting(unittest.TestCase):
    def test_count_rule(self):
        self.assertEqual([count_rule(SWAPPED, rule) for rule in ("axiom", "and_right", "and_left", "cut", "")], [2, 1, 1, 0, 0])
        self.assertIs(type(count_rule(SWAPPED, "axiom")), int)

    def test_analytic(self):
        self.assertIs(is_analytic(SWAPPED), True)
        self.assertIs(is_analytic([AXIOM]), True)
        self.assertIs(is_analytic(SWAPPED[:2]), True)
        self.assertIs(is_analytic([axiom(R)] + SWAPPED), False)
        self.assertIs(is_analytic([axiom(land(P, Q))] + SWAPPED), True)
        self.assertIs(is_analytic([axiom(lor(P, Q))] + SWAPPED), False)
        a = land(P, Q)
        cut = [axiom(P, [], [a]), axiom(P, [a]), ("cut", sequent([P], [P]), a, (0, 1))]
        self.assertTrue(is_derivation("K", cut))
        self.assertIs(is_analytic(cut), False)
        self.assertIs(is_analytic(cut + [("weaken", sequent([P], [P, box(a)]), None, (2,))]), True)
        self.assertIs(is_analytic(cut + [("weaken", sequent([P], [P, land(Q, P)]), None, (2,))]), False)
        self.assertIs(is_analytic([("falsum", sequent([F], []), None, ())]), True)
