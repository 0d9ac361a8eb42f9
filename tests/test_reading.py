import time
import unittest

from elsewhere.decision import decide, decide_formula
from elsewhere.derivation import conclusion_of, derives, first_wrong, is_derivation
from elsewhere.errors import IllTyped, NoFit, NotPlain, NotValid
from elsewhere.formula import conjunction, disjunction, iff, neg, verum
from elsewhere.reading import derivation_of, term_for, term_of
from elsewhere.reduction import normal, redexes
from elsewhere.rules import premises_of
from elsewhere.sequent import sequent
from elsewhere.terms import type_of, weight
from elsewhere.text import parse, show
from tests.plain_terms import TYPES, drawn_terms, inside_out, plain_type
from tests.samples import F, P, Q, R, T, Dice, box, formula_with, land, lor, mixed_formula, to, tower
from tests.test_terms import TYPED, UNTYPED

VALID = (
    "p -> p", "p -> q -> p", "(p -> q -> r) -> (p -> q) -> p -> r", "p & q -> q & p", "p | q -> q | p", "p -> ~~p", "~~~p -> ~p",
    "F -> p", "T", "~~(p | ~p)", "~(p & ~p)", "~(p | q) -> ~p & ~q", "~p & ~q -> ~(p | q)", "~p | ~q -> ~(p & q)",
    "(p | q -> r) -> (p -> r) & (q -> r)", "(p -> r) & (q -> r) -> p | q -> r", "p & (q | r) -> p & q | p & r",
    "p | q & r -> (p | q) & (p | r)", "(p | q) & (p | r) -> p | q & r", "(p | q) | r -> p | (q | r)", "((p -> q) -> p) -> ~~p",
    "~~(((p -> q) -> p) -> p)", "~~(p -> q) -> ~~p -> ~~q", "~~p & ~~q -> ~~(p & q)", "p | ~p -> ~~p -> p", "(p -> q) -> ~q -> ~p",
    "~~((p -> q) | (q -> p))", "(p <-> q) -> (q <-> p)", "(p -> F) -> p -> q", "~p -> p -> q", "p | F -> p", "(p -> q) & (q -> r) -> p -> r",
    "~~((~q -> ~p) -> p -> q)", "p & p -> p", "p | p -> p", "(T -> p) -> p", "((p | ~p) -> F) -> F", "(((p -> q) -> q) -> q) -> p -> q",
)
INVALID = (
    "p", "F", "p | ~p", "~~p -> p", "((p -> q) -> p) -> p", "(p -> q) | (q -> p)", "~p | ~~p", "~(p & q) -> ~p | ~q",
    "(~q -> ~p) -> p -> q", "(p -> q | r) -> (p -> q) | (p -> r)", "p -> q", "p | q", "(p <-> q) <-> r",
)


def drawn_valid(seed, many):
    """Formulas that are valid in Int, with the derivations that are found for them."""
    dice = Dice(seed)
    found = []
    while len(found) < many:
        a = formula_with(dice, 5 + dice.below(9), True)
        for b in (a, neg(neg(a)), to(neg(neg(a)), lor(a, neg(neg(a)))), to(a, mixed_formula(dice, 3, True))):
            decision = decide_formula("Int", b)
            if decision.is_valid():
                found.append((b, decision.derivation()))
                break
    return found


class FromTerms(unittest.TestCase):
    def derived(self, context, term, a):
        given = list(context)
        steps = derivation_of(context, term)
        self.assertEqual(context, given)
        self.assertIs(type(steps), list)
        self.assertEqual(first_wrong("Int", steps), -1, term)
        self.assertEqual(conclusion_of(steps), sequent(context, [a]))
        self.assertIs(derives("Int", steps, sequent(context, [a])), True, term)
        return steps

    def test_each_kind(self):
        for context, term, a in TYPED:
            self.derived(context, term, a)
            self.derived([*context, R, F, *context], term, a)

    def test_drawn_terms(self):
        for context, term, a in drawn_terms(1301, 250, 5):
            self.derived(context, term, a)
            self.derived(context + context, term, a)

    def test_no_type(self):
        for context, term in UNTYPED:
            with self.assertRaises(IllTyped, msg=term) as caught:
                derivation_of(context, term)
            self.assertIs(type(caught.exception), IllTyped)

    def test_main_formulas_that_are_in_the_context(self):
        self.derived([to(P, Q), P], ("call", ("at", 0), ("at", 1)), Q)
        self.derived([to(P, Q), P], ("call", ("fun", P, ("call", ("at", 1), ("at", 0))), ("at", 1)), Q)
        self.derived([land(P, Q), land(Q, P)], ("first", ("pair", ("second", ("at", 0)), ("at", 0))), Q)
        self.derived([lor(P, P), F], ("case", ("absurd", ("at", 1), lor(P, P)), ("at", 0), ("at", 0)), P)
        self.derived([F, P], ("absurd", ("call", ("fun", P, ("at", 1)), ("at", 1)), Q), Q)

    def test_shared_and_deep_terms(self):
        begun = time.process_time()
        term = tower(lambda t: ("call", ("fun", P, ("at", 0)), t), 2000, ("at", 0))
        self.derived([P], term, P)
        term = tower(lambda t: ("second", ("pair", t, t)), 60, ("at", 0))
        self.derived([P], term, P)
        self.assertLess(time.process_time() - begun, 10)


def built(*rows):
    """The steps for rows of a rule, a left side, a right side, a main formula and the numbers of the premises."""
    return [(rule, sequent(left, right), main, tuple(numbers)) for rule, left, right, main, numbers in rows]


def put(steps, rule, left, right, main, numbers):
    """Adds a step, and before it a "weaken" for each of its premises, and returns its number."""
    goal = sequent(left, right)
    given = []
    for premise, number in zip(premises_of("Int", rule, goal, main), numbers):
        steps.append(("weaken", premise, None, (number,)))
        given.append(len(steps) - 1)
    steps.append((rule, goal, main, tuple(given)))
    return len(steps) - 1


def joined_right(steps, number):
    """Joins the formulas on the right of a step, by "or_right" for the last two of them again and again."""
    left, right = steps[number][1]
    items = list(right)
    while len(items) > 1:
        b = items.pop()
        items.append(lor(items.pop(), b))
        number = put(steps, "or_right", left, items, items[-1], [number])


class FromDerivations(unittest.TestCase):
    def read(self, context, steps):
        """The term of a derivation, in the context and in others with the same items."""
        goal = conclusion_of(steps)
        self.assertEqual(first_wrong("Int", steps), -1, steps)
        self.assertEqual(sequent(context, [])[0], goal[0])
        for items in (list(context), list(context)[::-1], [*context, *context], [*list(context)[::-1], *context, *context[:1]]):
            given, before = list(items), list(steps)
            term = term_of(items, steps)
            self.assertEqual((items, steps), (given, before))
            self.assertEqual(type_of(items, term), goal[1][0])
            self.assertEqual(plain_type(items, term), goal[1][0])
        return term_of(context, steps)

    def test_of_decisions(self):
        for a, steps in drawn_valid(1302, 120):
            self.read([], steps)
        dice = Dice(1303)
        done = 0
        while done < 120:
            left = [mixed_formula(dice, 3, True) for _ in range(1 + dice.below(4))]
            goal = sequent(left, [mixed_formula(dice, 4, True)])
            decision = decide("Int", goal)
            if decision.is_valid():
                done += 1
                self.read(list(goal[0]), decision.derivation())

    def test_of_terms(self):
        for context, term, _ in drawn_terms(1304, 200, 5):
            self.read(list(sequent(context, [])[0]), derivation_of(context, term))

    def test_each_rule(self):
        pq, qp, imp = lor(P, Q), land(P, Q), to(P, Q)
        for context, steps in (
            ([P], built(("axiom", [P], [P], P, []))),
            ([F], built(("falsum", [F], [P], None, []))),
            ([F], built(("falsum", [F], [F], None, []))),
            ([F], built(("axiom", [F], [F], F, []))),
            ([F, P], built(("falsum", [F], [], None, []), ("weaken", [F, P], [Q], None, [0]))),
            ([P, Q, R], built(("axiom", [P], [P], P, []), ("weaken", [P, Q, R], [P], None, [0]))),
            ([qp], built(("axiom", [qp, P, Q], [Q], Q, []), ("and_left", [qp], [Q], qp, [0]))),
            ([land(P, P)], built(("axiom", [land(P, P), P], [P], P, []), ("and_left", [land(P, P)], [P], land(P, P), [0]))),
            ([P, Q], built(("axiom", [P, Q], [P, qp], P, []), ("axiom", [P, Q], [Q, qp], Q, []), ("and_right", [P, Q], [qp], qp, [0, 1]))),
            ([P], built(("axiom", [P], [P, land(P, P)], P, []), ("and_right", [P], [land(P, P)], land(P, P), [0, 0]))),
            ([lor(P, P)], built(("axiom", [lor(P, P), P], [P], P, []), ("or_left", [lor(P, P)], [P], lor(P, P), [0, 0]))),
            ([P], built(("axiom", [P], [P, Q, pq], P, []), ("or_right", [P], [pq], pq, [0]))),
            ([Q], built(("axiom", [Q], [P, Q, pq], Q, []), ("or_right", [Q], [pq], pq, [0]))),
            ([P], built(("axiom", [P], [P, lor(P, P)], P, []), ("or_right", [P], [lor(P, P)], lor(P, P), [0]))),
            ([P, imp], built(("axiom", [P, imp], [P, Q], P, []), ("axiom", [P, Q, imp], [Q], Q, []), ("implies_left", [P, imp], [Q], imp, [0, 1]))),
            ([to(P, P), P], built(("axiom", [to(P, P), P], [P], P, []), ("implies_left", [to(P, P), P], [P], to(P, P), [0, 0]))),
            ([Q], built(("axiom", [P, Q], [Q], Q, []), ("implies_right", [Q], [imp], imp, [0]))),
            ([], built(("axiom", [P], [P], P, []), ("implies_right", [], [to(P, P)], to(P, P), [0]))),
            ([], built(("falsum", [F], [P], None, []), ("implies_right", [], [to(F, P)], to(F, P), [0]))),
            ([], built(("axiom", [F], [F], F, []), ("implies_right", [], [T], T, [0]))),
            ([P], built(("axiom", [P], [P], P, []), ("cut", [P], [P], P, [0, 0]))),
            ([P], built(("axiom", [P], [P], P, []), ("weaken", [P], [P, Q], None, [0]), ("axiom", [P, Q], [P], P, []), ("cut", [P], [P], Q, [1, 2]))),
        ):
            self.read(context, steps)

    def test_weaken_and_cut(self):
        pq = lor(P, Q)
        steps = built(
            ("axiom", [P], [P, Q, pq], P, []), ("or_right", [P], [pq], pq, [0]), ("weaken", [P], [pq, R], None, [1]),
            ("axiom", [P, pq], [P, R], P, []), ("weaken", [P, pq], [P, R, lor(P, R)], None, [3]), ("or_right", [P, pq], [lor(P, R)], lor(P, R), [4]),
            ("weaken", [P], [pq, lor(P, R)], None, [1]), ("cut", [P], [lor(P, R)], pq, [6, 5]),
        )
        self.read([P], steps)
        # The formula that is cut is in the sequent already.
        self.read([P, Q], built(("axiom", [P, Q], [P], P, []), ("cut", [P, Q], [P], P, [0, 0])))
        self.read([P], built(("axiom", [P], [P], P, []), ("axiom", [P], [P, to(Q, Q)], P, []), ("axiom", [P, to(Q, Q)], [P], P, []), ("cut", [P], [P], to(Q, Q), [1, 2])))
        self.read([F], built(("falsum", [F], [F, P], None, []), ("falsum", [F], [P], None, []), ("cut", [F], [P], F, [0, 1])))

    def test_several_formulas_on_the_right(self):
        # p | (q | r) gives each order of the three, by way of sequents with all three on the right.
        whole = lor(P, lor(Q, R))
        for a, b, c in ((P, Q, R), (Q, P, R), (R, Q, P), (R, P, Q), (P, R, Q), (Q, R, P)):
            for inner, goal in ((lor(b, c), lor(a, lor(b, c))), (lor(a, b), lor(lor(a, b), c))):
                steps = []
                ends = [put(steps, "axiom", [d], [d], d, []) for d in (P, Q, R)]
                last = put(steps, "or_left", [lor(Q, R)], [P, Q, R], lor(Q, R), ends[1:])
                last = put(steps, "or_left", [whole], [P, Q, R], whole, [ends[0], last])
                last = put(steps, "or_right", [whole], [a, b, c, inner, goal], inner, [last])
                other = c if inner == lor(a, b) else a
                last = put(steps, "or_right", [whole], [inner, other, goal], inner, [last])
                put(steps, "or_right", [whole], [goal], goal, [last])
                self.assertEqual(type_of([], normal(("fun", whole, self.read([whole], steps)))), to(whole, goal))

    def test_several_formulas_on_the_right_of_each_rule(self):
        pq, both, imp = lor(P, Q), land(P, R), to(P, R)
        steps = []
        p, q, r = [put(steps, "axiom", [a], [a], a, []) for a in (P, Q, R)]
        split = put(steps, "or_left", [pq], [P, Q], pq, [p, q])
        first = put(steps, "and_right", [pq, R], [both, Q], both, [split, r])
        second = put(steps, "implies_left", [pq, imp], [Q, R], imp, [split, r])
        third = put(steps, "and_left", [land(pq, imp)], [Q, R], land(pq, imp), [second])
        fourth = put(steps, "cut", [land(pq, imp), P], [Q, R], P, [p, third])
        fifth = put(steps, "cut", [pq, imp], [Q, R, to(Q, Q)], R, [second, r])
        falsum = put(steps, "falsum", [F], [], None, [])
        sixth = put(steps, "implies_left", [pq, to(P, F)], [Q], to(P, F), [split, falsum])
        seventh = put(steps, "implies_left", [pq, to(P, F), R], [Q, both], to(P, F), [first, falsum])
        for number in (split, first, second, third, fourth, fifth, sixth, seventh):
            own = steps[:number + 1]
            joined_right(own, number)
            self.read(list(own[-1][1][0]), own)

    def split_step(self, steps, parts):
        """A step with the disjunction of some formulas on its left and the formulas themselves on its right."""
        ends = [put(steps, "axiom", [a], [a], a, []) for a in parts]
        last = ends[-1]
        for k in range(len(parts) - 2, -1, -1):
            last = put(steps, "or_left", [disjunction(parts[k:])], parts[k:], disjunction(parts[k:]), [ends[k], last])
        return last

    def test_one_step_with_several_ends_is_used_often(self):
        parts = [P, Q, R, ("var", "s"), F]
        whole = disjunction(parts)
        for order in ((0, 1, 2, 3, 4), (4, 3, 2, 1, 0), (2, 0, 4, 1, 3), (1, 3, 0, 2, 4)):
            steps = []
            split = self.split_step(steps, parts)
            given = []
            for own in ([parts[k] for k in order], [parts[k] for k in order[::-1]]):
                last = split
                items = list(own)
                while len(items) > 1:
                    b = items.pop()
                    items.append(lor(items.pop(), b))
                    last = put(steps, "or_right", [whole], items, items[-1], [last])
                given.append(last)
            goals = [steps[number][1][1][0] for number in given]
            put(steps, "and_right", [whole], [land(*goals)], land(*goals), given)
            self.assertEqual(goals[0], disjunction([parts[k] for k in order]))
            term = self.read([whole], steps)
            found = normal(("fun", whole, term))
            self.assertEqual(plain_type([], found), to(whole, land(*goals)))
            # The choices are kept: what comes from one part goes to the place of this part.
            for k, a in enumerate(parts):
                if a != F:
                    self.check_place(found, parts, k, [parts[m] for m in order])

    def check_place(self, function, parts, k, own):
        choice = ("at", 0)
        if k + 1 < len(parts):
            choice = ("left", choice, disjunction(parts[k + 1:]))
        for m in range(k - 1, -1, -1):
            choice = ("right", choice, parts[m])
        self.assertEqual(type_of([parts[k]], choice), disjunction(parts))
        found = normal(("first", ("call", function, choice)))
        place = own.index(parts[k])
        for _ in range(place):
            self.assertEqual(found[0], "right")
            found = found[1]
        if place + 1 < len(own):
            self.assertEqual(found[0], "left")
            found = found[1]
        self.assertEqual(found, ("at", 0))

    def test_many_ends_of_few_types(self):
        for many in (6, 12, 17, 18, 30):
            marks = [("var", f"x{k}") for k in range(many)]
            parts = [land((P, Q, R, F)[k % 4], marks[k]) for k in range(many)]
            whole = disjunction(parts)
            steps = []
            ends = []
            for k, a in enumerate(parts):
                end = put(steps, "axiom", [a[1]], [a[1]], a[1], [])
                ends.append(put(steps, "and_left", [a], [a[1]], a, [end]))
            last = ends[-1]
            for k in range(many - 2, -1, -1):
                rest = disjunction(parts[k:])
                last = put(steps, "or_left", [rest], [P, Q, R, F], rest, [ends[k], last])
            self.read([whole], steps[:last + 1] + self.joined_steps(steps, last))
            term = term_of([whole], steps[:last + 1] + self.joined_steps(steps, last))
            self.assertLess(weight(term), 40 * many)

    def joined_steps(self, steps, number):
        own = list(steps[:number + 1])
        joined_right(own, number)
        return own[number + 1:]

    def test_going_on_from_several_ends_of_one_type(self):
        # p comes from three places; what is done with it is great, and it is not the only end.
        whole = disjunction([land(P, Q), R, land(Q, P), land(P, R)])
        great = tower(lambda a: lor(land(a, P), Q), 3, P)
        steps = []
        p, r = [put(steps, "axiom", [a], [a], a, []) for a in (P, R)]
        ends = [put(steps, "and_left", [land(P, Q)], [P], land(P, Q), [p]), r, put(steps, "and_left", [land(Q, P)], [P], land(Q, P), [p]),
                put(steps, "and_left", [land(P, R)], [P], land(P, R), [p])]
        last = ends[3]
        for k in (2, 1, 0):
            rest = disjunction([land(P, Q), R, land(Q, P), land(P, R)][k:])
            last = put(steps, "or_left", [rest], [P, R], rest, [ends[k], last])
        made = p
        for k in range(3):
            inner = tower(lambda a: lor(land(a, P), Q), k, P)
            made = put(steps, "and_right", [P], [land(inner, P)], land(inner, P), [made, p])
            made = put(steps, "or_right", [P], [lor(land(inner, P), Q)], lor(land(inner, P), Q), [made])
        for function in (False, True):
            own = list(steps)
            if function:
                add = put(own, "cut", [whole], [great, R], P, [last, made])
            else:
                q = put(own, "axiom", [great], [great], great, [])
                used = put(own, "implies_left", [whole, to(P, great)], [great, R], to(P, great), [last, q])
                add = put(own, "cut", [whole, to(P, great)], [great, R], great, [used, q])
            joined_right(own, add)
            self.read(list(own[-1][1][0]), own)

    def test_one_step_without_formulas_on_the_right_is_used_often(self):
        parts = [land(a, neg(a)) for a in (P, Q, R)]
        whole = disjunction(parts)
        steps = []
        falsum = put(steps, "falsum", [F], [], None, [])
        ends = []
        for a, part in zip((P, Q, R), parts):
            end = put(steps, "implies_left", [a, neg(a)], [], neg(a), [put(steps, "axiom", [a], [a], a, []), falsum])
            ends.append(put(steps, "and_left", [part], [], part, [end]))
        last = put(steps, "or_left", [lor(parts[1], parts[2])], [], lor(parts[1], parts[2]), ends[1:])
        last = put(steps, "or_left", [whole], [], whole, [ends[0], last])
        self.no_fit([whole], steps)
        for goal in (land(P, Q), land(F, P), land(F, F), land(to(P, F), F)):
            own = list(steps)
            put(own, "and_right", [whole], [goal], goal, [last, last])
            self.read([whole], own)
        own = [*steps, ("weaken", ((whole,), (F,)), None, (last,))]
        self.read([whole], own)

    def test_drawn_sequents_with_several_formulas_on_the_right(self):
        dice = Dice(1307)
        names = [P, Q, R, ("var", "s")]

        def tree(height):
            kind = dice.below(5)
            if height == 1 or kind == 0:
                return names[dice.below(4)]
            return (lor if kind < 4 else land)(tree(height - 1), tree(height - 1))

        done = 0
        while done < 150:
            goal = sequent([tree(4) for _ in range(1 + dice.below(3))], [tree(3) for _ in range(2 + dice.below(3))])
            decision = decide("Int", goal)
            if decision.is_valid() and len(goal[1]) > 1:
                done += 1
                steps = decision.derivation()
                joined_right(steps, len(steps) - 1)
                self.read(list(goal[0]), steps)

    def test_functions_of_what_is_used_often(self):
        # Written out at each place, what is used twice again and again would be greater than anything.
        steps = built(("axiom", [P], [P], P, []))
        last = 0
        for k in range(40):
            a = steps[last][1][1][0]
            one = put(steps, "or_right", [P], [lor(a, Q)], lor(a, Q), [last])
            other = put(steps, "or_right", [P], [lor(R, a)], lor(R, a), [last])
            last = put(steps, "and_right", [P], [land(lor(a, Q), lor(R, a))], land(lor(a, Q), lor(R, a)), [one, other])
        term = term_of([P], steps)
        self.assertLess(weight(term), 1500)
        type_of([P], term)

    def test_derivations_that_stand_for_great_trees(self):
        begun = time.process_time()
        steps = built(("axiom", [P], [P], P, []))
        for _ in range(50):
            a = steps[-1][1][1][0]
            put(steps, "and_right", [P], [land(a, a)], land(a, a), [len(steps) - 1] * 2)
        term = term_of([P], steps)
        self.assertLess(weight(term), 2000)
        self.assertEqual(redexes(normal(term)), 0)
        self.assertEqual(weight(normal(term)), 2 ** 51 - 1)
        steps = built(("axiom", [P], [P], P, []))
        for _ in range(1500):
            put(steps, "cut", [P], [P], P, [len(steps) - 1] * 2)
        self.assertEqual(type_of([P], term_of([P], steps)), P)
        self.assertLess(time.process_time() - begun, 10)

    def no_fit(self, context, steps):
        with self.assertRaises(NoFit, msg=(context, steps)) as caught:
            term_of(context, steps)
        self.assertIs(type(caught.exception), NoFit)

    def test_no_derivations(self):
        self.no_fit([], [])
        self.no_fit([P], [])
        good = built(("axiom", [P], [P], P, []), ("implies_right", [], [to(P, P)], to(P, P), [0]))
        self.read([], good)
        for k, step in enumerate(good):
            rule, goal, main, numbers = step
            for wrong in (("axiom", goal, Q, numbers), ("no_rule", goal, main, numbers), (rule, goal, None, numbers), (rule, goal, main, (1,)),
                          (rule, goal, main, (*numbers, 0)), (rule, goal, main, (-1,)), (rule, sequent([], [to(P, Q)]), main, numbers)):
                self.no_fit([], good[:k] + [wrong] + good[k + 1:])
        self.no_fit([], good[::-1])
        self.no_fit([], [good[1]])

    def test_derivations_of_other_logics(self):
        for logic, text in (("Cl", "p | ~p"), ("KC", "~p | ~~p"), ("LC", "(p -> q) | (q -> p)"), ("BD2", "p | (p -> q | ~q)"), ("HT", "p | (p -> q) | ~q"),
                            ("K", "p | ~p")):
            steps = decide_formula(logic, parse(text)).derivation()
            self.assertTrue(is_derivation(logic, steps))
            self.no_fit([], steps)
        boxed = built(("axiom", [box(P)], [box(P)], box(P), []))
        self.no_fit([box(P)], boxed)
        self.no_fit([P], built(("axiom", [P], [P], P, []), ("weaken", [P], [P, box(P)], None, [0]), ("axiom", [P, box(P)], [P], P, []), ("cut", [P], [P], box(P), [1, 2])))

    def test_other_contexts(self):
        steps = built(("axiom", [P, Q], [P], P, []))
        for context in ([P, Q], [Q, P], [P, Q, P, P], [Q, Q, P]):
            self.assertEqual(type_of(context, term_of(context, steps)), P)
        for context in ([], [P], [Q], [P, P], [P, Q, R], [R, P, Q], [P, R], [lor(P, Q)], [P, Q, F], [Q, Q]):
            self.no_fit(context, steps)
        self.no_fit([P], built(("axiom", [P], [P], P, []), ("implies_right", [], [to(P, P)], to(P, P), [0])))

    def test_other_right_sides(self):
        self.no_fit([F], built(("falsum", [F], [], None, [])))
        self.no_fit([P], built(("axiom", [P], [P, Q], P, [])))
        self.no_fit([F], built(("falsum", [F], [P, Q, R], None, [])))


class ForFormulas(unittest.TestCase):
    def check(self, a):
        term = term_for(a)
        self.assertEqual(plain_type([], term), a)
        self.assertEqual(type_of([], term), a)
        self.assertEqual(redexes(term), 0)
        self.assertEqual(normal(term), term)
        self.assertIn(term[0], ("fun", "pair", "left", "right"))
        if term[0] in ("left", "right"):
            self.assertEqual(type_of([], term[1]), a[1 if term[0] == "left" else 2])
        self.assertTrue(derives("Int", derivation_of([], term), ((), (a,))))

    def test_valid_formulas(self):
        for text in VALID:
            self.check(parse(text))
        self.assertEqual(term_for(to(P, P)), ("fun", P, ("at", 0)))
        self.assertEqual(term_for(parse("p | q -> q | p"))[0], "fun")
        for a, b in ((to(P, P), Q), (verum(), F), (Q, to(P, P))):
            self.assertEqual(term_for(lor(a, b))[0], "left" if a != Q else "right")

    def test_drawn_formulas(self):
        for a, steps in drawn_valid(1305, 150):
            self.check(a)
            self.assertEqual(normal(term_of([], steps)), inside_out(term_of([], steps)))

    def test_longer_formulas(self):
        names = [("var", f"p{k}") for k in range(8)]
        self.check(to(disjunction(names), disjunction(names[::-1])))
        self.check(to(conjunction(names), conjunction(names[::-1])))
        self.check(to(conjunction([iff(names[k], names[k + 1]) for k in range(7)]), iff(names[0], names[7])))
        clauses = [lor(names[k], names[k + 1]) for k in range(0, 8, 2)]
        self.check(to(conjunction(clauses), conjunction([lor(c[2], c[1]) for c in clauses])))
        self.check(neg(neg(parse("((p <-> q) <-> r) <-> (p <-> (q <-> r))"))))

    def test_not_valid(self):
        for text in INVALID:
            with self.assertRaises(NotValid, msg=text):
                term_for(parse(text))

    def test_not_plain(self):
        for text in ("[]p", "[]p -> []p", "p -> []q", "T | []F", "~[]p & (p -> p)", "p -> p | []p"):
            with self.assertRaises(NotPlain, msg=text):
                term_for(parse(text))

    def test_drawn_formulas_are_valid_or_not(self):
        dice = Dice(1306)
        seen = {True: 0, False: 0}
        for _ in range(150):
            a = to(mixed_formula(dice, 3, True), mixed_formula(dice, 3, True))
            valid = decide_formula("Int", a).is_valid()
            seen[valid] += 1
            if valid:
                self.check(a)
            else:
                with self.assertRaises(NotValid, msg=show(a)):
                    term_for(a)
        self.assertGreater(min(seen.values()), 20)

    def test_types_in_contexts(self):
        for a in TYPES:
            for b in TYPES:
                decision = decide("Int", sequent([a], [b]))
                if decision.is_valid():
                    self.check(to(a, b))
                    self.assertEqual(type_of([a], term_of([a], decision.derivation())), b)
