import unittest

from elsewhere.bisimulation import class_of, greatest_bisimulation, round_of, smallest, telling
from elsewhere.errors import ElsewhereError, NotTold
from elsewhere.formula import height, modal_depth
from elsewhere.logics import INTERMEDIATE, MODAL, is_model_of
from elsewhere.model import Model, disjoint, forcing, truth
from tests.samples import (
    Dice, P, Q, chain, frames, mixed_formula, mixed_model, mixed_order, order, small_formulas, told,
)

DOUBLED = Model((4, ((0, 1), (0, 2), (1, 3), (2, 3))), {"p": [3], "q": [1, 2]})
SINGLE = Model((3, ((0, 1), (1, 2))), {"p": [2], "q": [1]})


def names_at(model, v):
    return [name for name, worlds in sorted(model.true_worlds().items()) if v in worlds]


def plain_rounds(first, second):
    """The dict from each pair that is told apart to its round, in the words of the document."""
    pairs = [(v, w) for v in range(first.frame()[0]) for w in range(second.frame()[0])]
    rounds = {(v, w): 0 for v, w in pairs if names_at(first, v) != names_at(second, w)}
    n = 0
    while True:
        more = [
            (v, w) for v, w in pairs if (v, w) not in rounds and (
                any(all((x, y) in rounds for y in second.seen(w)) for x in first.seen(v))
                or any(all((x, y) in rounds for x in first.seen(v)) for y in second.seen(w)))
        ]
        if not more:
            return rounds
        n += 1
        rounds.update({pair: n for pair in more})


def many_models():
    dice = Dice(12)
    models = [mixed_model(dice, 1 + k % 5, "p" if k % 2 else "pq") for k in range(24)]
    models += [chain(k) for k in (1, 2, 4)] + [DOUBLED, SINGLE]
    models += [Model(frame, {}) for frame in list(frames(2))]
    return models


class Greatest(unittest.TestCase):
    def test_a_model_with_itself(self):
        self.assertEqual(greatest_bisimulation(SINGLE, SINGLE), [(0, 0), (1, 1), (2, 2)])
        self.assertEqual(
            greatest_bisimulation(DOUBLED, DOUBLED), [(0, 0), (1, 1), (1, 2), (2, 1), (2, 2), (3, 3)])

    def test_a_doubled_world(self):
        self.assertEqual(greatest_bisimulation(SINGLE, DOUBLED), [(0, 0), (1, 1), (1, 2), (2, 3)])
        self.assertEqual(greatest_bisimulation(DOUBLED, SINGLE), [(0, 0), (1, 1), (2, 1), (3, 2)])

    def test_no_pair(self):
        self.assertEqual(greatest_bisimulation(chain(1), chain(1, {"p": [0]})), [])
        self.assertEqual(greatest_bisimulation(chain(3), Model((1, ((0, 0),)), {})), [])
        self.assertEqual(greatest_bisimulation(Model((1, ()), {"q": [0]}), Model((1, ()), {"p": [0]})), [])

    def test_circles(self):
        circle = Model((3, ((0, 1), (1, 2), (2, 0))), {})
        loop = Model((1, ((0, 0),)), {})
        self.assertEqual(greatest_bisimulation(circle, loop), [(0, 0), (1, 0), (2, 0)])
        self.assertEqual(greatest_bisimulation(loop, circle), [(0, 0), (0, 1), (0, 2)])

    def test_both_directions_count(self):
        more = Model((3, ((0, 1), (0, 2), (2, 2))), {})
        less = Model((2, ((0, 1),)), {})
        self.assertEqual(greatest_bisimulation(more, less), [(1, 1)])
        self.assertEqual(greatest_bisimulation(less, more), [(1, 1)])

    def test_in_the_words_of_the_document(self):
        for first in many_models():
            for second in many_models()[::3]:
                rounds = plain_rounds(first, second)
                pairs = [(v, w) for v in range(first.frame()[0]) for w in range(second.frame()[0])]
                self.assertEqual(greatest_bisimulation(first, second), [p for p in pairs if p not in rounds])

    def test_each_list_is_new(self):
        before = told(SINGLE)
        greatest_bisimulation(SINGLE, SINGLE).clear()
        class_of(SINGLE).clear()
        self.assertEqual(len(greatest_bisimulation(SINGLE, SINGLE)), 3)
        self.assertEqual(class_of(SINGLE), [0, 1, 2])
        self.assertEqual(told(SINGLE), before)


class Smallest(unittest.TestCase):
    def test_classes(self):
        self.assertEqual(class_of(DOUBLED), [0, 1, 1, 2])
        self.assertEqual(class_of(SINGLE), [0, 1, 2])
        self.assertEqual(class_of(Model((4, ()), {"p": [1, 3]})), [0, 1, 0, 1])
        self.assertEqual(class_of(Model((4, ((0, 3), (2, 3))), {})), [0, 1, 0, 1])
        self.assertEqual(class_of(Model((3, ((0, 1), (1, 0), (2, 2))), {})), [0, 0, 0])

    def test_the_smallest_model(self):
        self.assertEqual(told(smallest(DOUBLED)), told(SINGLE))
        self.assertEqual(told(smallest(SINGLE)), told(SINGLE))
        self.assertEqual(told(smallest(Model((3, ()), {"p": [2], "q": [1, 2]}))), (
            (3, ()), {"p": [2], "q": [1, 2]}, [[], [], []]))

    def test_a_set_that_sees_itself(self):
        circle = Model((3, ((0, 1), (1, 2), (2, 0))), {"p": [0, 1, 2]})
        self.assertEqual(told(smallest(circle)), ((1, ((0, 0),)), {"p": [0]}, [[0]]))
        model = Model((4, ((0, 3), (1, 2), (2, 1))), {"p": [3]})
        self.assertEqual(class_of(model), [0, 1, 1, 2])
        self.assertEqual(told(smallest(model)), ((3, ((0, 2), (1, 1))), {"p": [2]}, [[2], [1], []]))

    def test_the_numbers_are_those_of_the_least_members(self):
        for model in many_models():
            pairs = greatest_bisimulation(model, model)
            least = [min(w for x, w in pairs if x == v) for v in range(model.frame()[0])]
            numbers = {v: k for k, v in enumerate(sorted(set(least)))}
            classes = class_of(model)
            self.assertIs(type(classes), list)
            self.assertEqual(classes, [numbers[v] for v in least])
            small = smallest(model)
            self.assertEqual(small.frame(), (
                len(numbers), tuple(sorted({(classes[v], classes[w]) for v, w in model.frame()[1]}))))
            self.assertEqual(small.true_worlds(), {
                name: sorted({classes[v] for v in worlds}) for name, worlds in model.true_worlds().items()})

    def test_truth_and_forcing_are_kept(self):
        dice = Dice(13)
        formulas = [mixed_formula(dice, 5) for _ in range(20)]
        plain = [mixed_formula(dice, 5, plain=True) for _ in range(20)]
        for model in many_models() + [mixed_order(dice, 5) for _ in range(10)]:
            small, classes = smallest(model), class_of(model)
            for of, some in ((truth, formulas), (forcing, plain)):
                for a in some:
                    kept = of(small, a)
                    self.assertEqual(of(model, a), [v for v, k in enumerate(classes) if k in kept])

    def test_conditions_are_kept(self):
        dice = Dice(14)
        models = [Model(frame, {"p": [0]}) for worlds in (1, 2, 3) for frame in frames(worlds)]
        models += [mixed_order(dice, 2 + k % 5, "p") for k in range(60)]
        models += [Model(order([1], [2], [], [4], []), {"p": [2, 4]}), Model(order([], [], []), {"p": [1]})]
        seen = []
        for model in models:
            small = smallest(model)
            for logic in MODAL + INTERMEDIATE:
                if is_model_of(logic, model):
                    self.assertTrue(is_model_of(logic, small), (logic, told(model)))
                    if small.frame()[0] < model.frame()[0]:
                        seen.append(logic)
        self.assertEqual(set(seen), set(MODAL + INTERMEDIATE))

    def test_no_two_worlds_form_a_pair(self):
        for model in many_models():
            small = smallest(model)
            self.assertEqual(greatest_bisimulation(small, small), [(v, v) for v in range(small.frame()[0])])


class Rounds(unittest.TestCase):
    def test_no_round(self):
        self.assertEqual(round_of(SINGLE, 1, DOUBLED, 2), -1)
        self.assertEqual(round_of(chain(3), 2, chain(5), 4), -1)

    def test_variables(self):
        self.assertEqual(round_of(SINGLE, 0, SINGLE, 2), 0)
        self.assertEqual(round_of(chain(1, {"p": [0]}), 0, chain(5), 0), 0)

    def test_chains(self):
        for first in range(1, 8):
            for second in range(1, 8):
                wanted = -1 if first == second else min(first, second)
                self.assertEqual(round_of(chain(first), 0, chain(second), 0), wanted)
        self.assertEqual(round_of(chain(6), 2, chain(6), 3), 3)
        self.assertEqual(round_of(chain(400), 0, chain(300), 0), 300)

    def test_in_the_words_of_the_document(self):
        for first in many_models():
            for second in many_models()[::3]:
                rounds = plain_rounds(first, second)
                for v in range(first.frame()[0]):
                    for w in range(second.frame()[0]):
                        self.assertEqual(round_of(first, v, second, w), rounds.get((v, w), -1))


class Telling(unittest.TestCase):
    def tells(self, first, v, second, w):
        a = telling(first, v, second, w)
        self.assertIn(v, truth(first, a))
        self.assertNotIn(w, truth(second, a))
        self.assertEqual(modal_depth(a), round_of(first, v, second, w))

    def test_variables(self):
        self.tells(SINGLE, 2, SINGLE, 1)
        self.tells(SINGLE, 0, SINGLE, 2)
        self.tells(chain(1, {"p": [0]}), 0, chain(1, {"p": [0], "q": [0]}), 0)
        self.assertIn(telling(SINGLE, 2, chain(1), 0), (P, ("implies", ("implies", P, ("falsum",)), ("falsum",))))

    def test_only_one_world_sees_more(self):
        more = Model((3, ((0, 1), (0, 2), (2, 2))), {})
        less = Model((2, ((0, 1),)), {})
        self.tells(more, 0, less, 0)
        self.tells(less, 0, more, 0)
        self.tells(chain(2), 0, chain(1), 0)
        self.tells(chain(1), 0, chain(2), 0)

    def test_chains(self):
        for first in range(1, 9):
            for second in range(1, 9):
                if first != second:
                    self.tells(chain(first), 0, chain(second), 0)
        self.assertLessEqual(height(telling(chain(19), 0, chain(25), 0)), 60)
        self.assertLessEqual(height(telling(chain(25), 0, chain(19), 0)), 60)

    def test_long_chains(self):
        self.tells(chain(400), 0, chain(300), 0)
        self.tells(chain(300), 0, chain(400), 0)

    def test_all_pairs_of_many_models(self):
        for first in many_models():
            for second in many_models()[::4]:
                for v in range(first.frame()[0]):
                    for w in range(second.frame()[0]):
                        if round_of(first, v, second, w) >= 0:
                            self.tells(first, v, second, w)

    def test_worlds_that_are_not_told_apart(self):
        for case in ((SINGLE, 1, DOUBLED, 2), (SINGLE, 0, SINGLE, 0), (chain(3), 1, chain(2), 0),
                     (Model((2, ((0, 1), (1, 0))), {"q": [0, 1]}), 0, Model((1, ((0, 0),)), {"q": [0]}), 0)):
            with self.assertRaises(NotTold) as caught:
                telling(*case)
            self.assertEqual(type(caught.exception).__bases__, (ElsewhereError,))

    def test_no_formula_of_a_smaller_depth_tells(self):
        formulas = small_formulas(2)
        for model in (chain(4), Model((4, ((0, 1), (1, 2), (3, 2), (3, 3))), {"p": [2]})):
            for v in range(4):
                for w in range(4):
                    depth = round_of(model, v, model, w)
                    for a in formulas:
                        if depth < 0 or modal_depth(a) < depth:
                            worlds = truth(model, a)
                            self.assertEqual(v in worlds, w in worlds)

    def test_the_models_stay(self):
        before = told(SINGLE), told(DOUBLED)
        telling(SINGLE, 0, DOUBLED, 1)
        round_of(SINGLE, 0, DOUBLED, 1)
        smallest(DOUBLED)
        disjoint(SINGLE, DOUBLED)
        self.assertEqual((told(SINGLE), told(DOUBLED)), before)
        self.assertEqual(truth(SINGLE, Q), [1])
