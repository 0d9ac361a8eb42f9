import unittest

from elsewhere.formula import (
    boxes, conjunction, dia, disjunction, height, iff, is_guarded, is_plain, modal_depth, neg, polarities,
    replace_boxes, size, subformulas, substitute, variables, verum,
)
from tests.samples import (
    Dice, F, P, Q, R, T, box, doubled_tower, land, lor, mixed_formula, small_formulas, to, tower,
)

HIGH = {
    "neg": tower(neg, 59),
    "box": tower(box, 59),
    "to the right": tower(lambda a: to(P, a), 59),
    "to the left": tower(lambda a: land(a, Q), 59),
}


def parts(a):
    return [] if a[0] == "var" else list(a[1:])


def plain_subformulas(a):
    """All subformulas with repetitions, by a plain walk."""
    found = [a]
    for part in parts(a):
        found += plain_subformulas(part)
    return found


def plain_height(a):
    return 1 + max([plain_height(part) for part in parts(a)], default=0)


def plain_depth(a):
    return (a[0] == "box") + max([plain_depth(part) for part in parts(a)], default=0)


def plain_occurrences(a, positive=True, boxed=False):
    """The list of (name, positive, boxed) of all occurrences of variables."""
    if a[0] == "var":
        return [(a[1], positive, boxed)]
    found = []
    for k, part in enumerate(parts(a)):
        turned = a[0] == "implies" and k == 0
        found += plain_occurrences(part, positive != turned, boxed or a[0] == "box")
    return found


class Abbreviations(unittest.TestCase):
    def test_neg(self):
        self.assertEqual(neg(P), ("implies", ("var", "p"), ("falsum",)))
        self.assertEqual(neg(neg(P)), to(to(P, F), F))

    def test_verum(self):
        self.assertEqual(verum(), ("implies", ("falsum",), ("falsum",)))

    def test_dia(self):
        self.assertEqual(dia(P), to(box(to(P, F)), F))

    def test_iff(self):
        self.assertEqual(iff(P, Q), land(to(P, Q), to(Q, P)))

    def test_conjunction(self):
        self.assertEqual(conjunction([]), T)
        self.assertEqual(conjunction([P]), P)
        self.assertEqual(conjunction([P, Q]), land(P, Q))
        self.assertEqual(conjunction([P, Q, R]), land(P, land(Q, R)))
        self.assertEqual(conjunction([P, Q, R, P]), land(P, land(Q, land(R, P))))

    def test_disjunction(self):
        self.assertEqual(disjunction([]), F)
        self.assertEqual(disjunction([P]), P)
        self.assertEqual(disjunction([P, Q]), lor(P, Q))
        self.assertEqual(disjunction([P, Q, R]), lor(P, lor(Q, R)))
        self.assertEqual(disjunction([Q, Q, P, P]), lor(Q, lor(Q, lor(P, P))))

    def test_the_lists_stay(self):
        given = [P, Q, R]
        conjunction(given)
        disjunction(given)
        self.assertEqual(given, [P, Q, R])


class Measures(unittest.TestCase):
    def test_height(self):
        self.assertEqual(height(P), 1)
        self.assertEqual(height(F), 1)
        self.assertEqual(height(box(P)), 2)
        self.assertEqual(height(T), 2)
        self.assertEqual(height(land(P, box(box(Q)))), 4)
        self.assertEqual(height(land(box(box(Q)), P)), 4)

    def test_height_of_high_formulas(self):
        for name, a in HIGH.items():
            self.assertEqual(height(a), 60, name)

    def test_size(self):
        self.assertEqual(size(P), 1)
        self.assertEqual(size(F), 1)
        self.assertEqual(size(T), 3)
        self.assertEqual(size(land(P, P)), 3)
        self.assertEqual(size(lor(box(P), box(P))), 5)
        self.assertEqual(size(iff(P, Q)), 7)

    def test_size_of_high_formulas(self):
        self.assertEqual(size(HIGH["neg"]), 119)
        self.assertEqual(size(HIGH["box"]), 60)
        self.assertEqual(size(tower(lambda a: land(a, a), 59)), 2 ** 60 - 1)
        self.assertEqual(size(doubled_tower(29)), 6 * 2 ** 29 - 5)

    def test_modal_depth(self):
        self.assertEqual(modal_depth(P), 0)
        self.assertEqual(modal_depth(to(P, F)), 0)
        self.assertEqual(modal_depth(box(P)), 1)
        self.assertEqual(modal_depth(land(box(P), box(Q))), 1)
        self.assertEqual(modal_depth(box(land(P, box(Q)))), 2)
        self.assertEqual(modal_depth(to(box(P), box(box(box(Q))))), 3)
        self.assertEqual(modal_depth(dia(dia(P))), 2)
        self.assertEqual(modal_depth(HIGH["box"]), 59)
        self.assertEqual(modal_depth(tower(lambda a: land(a, box(a)), 29)), 29)

    def test_is_plain(self):
        for a in (P, F, T, to(land(P, Q), lor(R, F)), doubled_tower(29)):
            self.assertIs(is_plain(a), True)
        for a in (box(P), to(P, box(F)), to(box(P), Q), land(P, lor(Q, to(R, box(R)))), HIGH["box"]):
            self.assertIs(is_plain(a), False)

    def test_measures_as_by_a_plain_walk(self):
        dice = Dice(1)
        for _ in range(200):
            a = mixed_formula(dice, 6)
            self.assertEqual(height(a), plain_height(a))
            self.assertEqual(size(a), len(plain_subformulas(a)))
            self.assertEqual(modal_depth(a), plain_depth(a))
            self.assertIs(is_plain(a), plain_depth(a) == 0)


class Lists(unittest.TestCase):
    def test_subformulas(self):
        self.assertEqual(subformulas(P), [P])
        self.assertEqual(subformulas(F), [F])
        self.assertEqual(subformulas(T), [F, T])
        self.assertEqual(subformulas(land(P, P)), [land(P, P), P])
        self.assertEqual(subformulas(to(box(P), lor(Q, P))), [box(P), to(box(P), lor(Q, P)), lor(Q, P), P, Q])

    def test_variables(self):
        self.assertEqual(variables(F), [])
        self.assertEqual(variables(box(T)), [])
        self.assertEqual(variables(land(Q, to(P, Q))), ["p", "q"])
        names = ["p10", "p", "p2", "a", "zz", "p1"]
        self.assertEqual(variables(conjunction([("var", name) for name in names])), sorted(names))

    def test_boxes(self):
        self.assertEqual(boxes(land(P, Q)), [])
        self.assertEqual(boxes(box(P)), [box(P)])
        self.assertEqual(boxes(lor(box(Q), box(land(box(P), box(Q))))), [box(land(box(P), box(Q))), box(P), box(Q)])

    def test_lists_as_by_a_plain_walk(self):
        dice = Dice(2)
        for _ in range(200):
            a = mixed_formula(dice, 6)
            found = sorted(set(plain_subformulas(a)))
            self.assertEqual(subformulas(a), found)
            self.assertEqual(boxes(a), [b for b in found if b[0] == "box"])
            self.assertEqual(variables(a), [b[1] for b in found if b[0] == "var"])

    def test_high_formulas(self):
        self.assertEqual(len(subformulas(HIGH["box"])), 60)
        self.assertEqual(len(boxes(HIGH["box"])), 59)
        self.assertEqual(len(subformulas(doubled_tower(29))), 1 + 3 * 29 - 1)
        self.assertEqual(variables(doubled_tower(29)), ["p"])

    def test_each_list_is_new(self):
        for of in (subformulas, variables, boxes):
            first = of(box(P))
            self.assertIs(type(first), list)
            first.clear()
            self.assertNotEqual(of(box(P)), [])


class Replacing(unittest.TestCase):
    def test_substitute(self):
        self.assertEqual(substitute(P, {"p": Q}), Q)
        self.assertEqual(substitute(P, {}), P)
        self.assertEqual(substitute(F, {"p": Q}), F)
        self.assertEqual(substitute(box(lor(P, P)), {"p": F}), box(lor(F, F)))

    def test_substitute_at_the_same_time(self):
        self.assertEqual(substitute(to(P, Q), {"p": Q, "q": P}), to(Q, P))
        self.assertEqual(substitute(land(P, box(Q)), {"p": land(P, Q), "q": box(P)}), land(land(P, Q), box(box(P))))

    def test_substitute_with_other_keys(self):
        self.assertEqual(substitute(to(P, Q), {"r": F, "falsum": P, "pp": Q}), to(P, Q))

    def test_substitute_in_high_formulas(self):
        self.assertEqual(substitute(HIGH["box"], {"p": box(P)}), tower(box, 60))
        self.assertEqual(size(substitute(doubled_tower(29), {"p": Q})), size(doubled_tower(29)))

    def test_replace_boxes(self):
        self.assertEqual(replace_boxes(box(P), {box(P): Q}), Q)
        self.assertEqual(replace_boxes(box(P), {box(Q): Q}), box(P))
        self.assertEqual(replace_boxes(P, {box(P): Q}), P)
        self.assertEqual(replace_boxes(to(box(P), box(P)), {box(P): F}), T)

    def test_replace_a_key_inside_a_key(self):
        values = {box(land(P, box(Q))): R, box(Q): P}
        self.assertEqual(replace_boxes(box(land(P, box(Q))), values), R)
        self.assertEqual(replace_boxes(land(box(Q), box(land(P, box(Q)))), values), land(P, R))

    def test_a_value_that_contains_keys(self):
        values = {box(P): land(box(P), box(Q)), box(Q): box(P)}
        self.assertEqual(replace_boxes(to(box(P), box(Q)), values), to(land(box(P), box(Q)), box(P)))

    def test_a_key_that_arises_only_by_replacing(self):
        values = {box(P): P, box(Q): R}
        self.assertEqual(replace_boxes(box(box(P)), {box(P): P}), box(P))
        self.assertEqual(replace_boxes(box(box(Q)), {box(Q): P, box(P): R}), box(P))
        self.assertEqual(replace_boxes(box(to(box(P), Q)), values), box(to(P, Q)))

    def test_a_box_around_a_key(self):
        self.assertEqual(replace_boxes(box(lor(Q, box(P))), {box(P): F}), box(lor(Q, F)))
        self.assertEqual(replace_boxes(HIGH["box"], {box(P): P}), tower(box, 58))

    def test_the_dicts_stay(self):
        values = {"p": Q, "q": box(P)}
        substitute(to(P, Q), values)
        self.assertEqual(values, {"p": Q, "q": box(P)})
        values = {box(P): Q, box(Q): box(P)}
        replace_boxes(to(box(P), box(box(Q))), values)
        self.assertEqual(values, {box(P): Q, box(Q): box(P)})


class Occurrences(unittest.TestCase):
    def test_polarities(self):
        self.assertEqual(polarities(F), {})
        self.assertEqual(polarities(P), {"p": (True, False)})
        self.assertEqual(polarities(neg(P)), {"p": (False, True)})
        self.assertEqual(polarities(to(P, Q)), {"p": (False, True), "q": (True, False)})
        self.assertEqual(polarities(to(P, P)), {"p": (True, True)})
        self.assertEqual(polarities(iff(P, Q)), {"p": (True, True), "q": (True, True)})

    def test_left_sides_inside_left_sides(self):
        self.assertEqual(polarities(to(to(P, Q), R)), {"p": (True, False), "q": (False, True), "r": (True, False)})
        self.assertEqual(polarities(neg(neg(neg(P)))), {"p": (False, True)})
        self.assertEqual(polarities(to(land(P, to(P, F)), Q)), {"p": (True, True), "q": (True, False)})

    def test_boxes_keep_polarities(self):
        self.assertEqual(polarities(box(neg(box(P)))), {"p": (False, True)})
        self.assertEqual(polarities(lor(box(P), neg(Q))), {"p": (True, False), "q": (False, True)})

    def test_is_guarded(self):
        self.assertIs(is_guarded(P, "p"), False)
        self.assertIs(is_guarded(box(P), "p"), True)
        self.assertIs(is_guarded(P, "q"), True)
        self.assertIs(is_guarded(F, "p"), True)
        self.assertIs(is_guarded(land(box(P), P), "p"), False)
        self.assertIs(is_guarded(to(P, box(P)), "p"), False)
        self.assertIs(is_guarded(to(Q, box(lor(P, box(P)))), "p"), True)
        self.assertIs(is_guarded(to(Q, box(lor(P, box(P)))), "q"), False)

    def test_occurrences_as_by_a_plain_walk(self):
        dice = Dice(3)
        for a in [mixed_formula(dice, 6) for _ in range(200)] + small_formulas(1):
            found = plain_occurrences(a)
            names = {name for name, _, _ in found}
            wanted = {
                name: ((name, True) in [row[:2] for row in found], (name, False) in [row[:2] for row in found])
                for name in names
            }
            self.assertEqual(polarities(a), wanted)
            for name in "pqr":
                self.assertIs(is_guarded(a, name), (name, False) not in [(row[0], row[2]) for row in found])

    def test_high_formulas(self):
        self.assertEqual(polarities(HIGH["neg"]), {"p": (False, True)})
        self.assertEqual(polarities(doubled_tower(29)), {"p": (True, True)})
        self.assertIs(is_guarded(doubled_tower(29), "p"), False)
        self.assertIs(is_guarded(HIGH["box"], "p"), True)

    def test_each_dict_is_new(self):
        first = polarities(P)
        first.clear()
        self.assertEqual(polarities(P), {"p": (True, False)})
