import unittest

from elsewhere.decision import decide
from elsewhere.errors import InvalidText
from elsewhere.formula import neg, verum
from elsewhere.lines import read_derivation, write_derivation
from elsewhere.logics import INTERMEDIATE, MODAL
from elsewhere.sequent import sequent
from tests.samples import F, P, Q, R, Dice, box, doubled_tower, land, lor, mixed_formula, to

GOOD = "axiom : p => p : p : \nweaken : p, q => p, r : - : 0\n"


class Writing(unittest.TestCase):
    def test_texts(self):
        for step, text in (
            (("axiom", sequent([P], [P]), P, ()), "axiom : p => p : p : \n"),
            (("falsum", sequent([F], []), None, ()), "falsum : F =>  : - : \n"),
            (("serial", sequent([], []), None, (3,)), "serial :  =>  : - : 3\n"),
            (("cut", sequent([], [Q, P]), box(R), (0, 12)), "cut :  => p, q : []r : 0 12\n"),
            (("no_rule", sequent([P, neg(P)], [verum()]), lor(P, land(Q, R)), (5, 4, 3)),
             "no_rule : ~p, p => T : p | q & r : 5 4 3\n"),
            (("x", sequent([to(to(P, Q), R)], [to(P, to(Q, R))]), None, (0,)), "x : (p -> q) -> r => p -> q -> r : - : 0\n"),
        ):
            self.assertEqual(write_derivation([step]), text)
            self.assertEqual(read_derivation(text), [step])

    def test_no_steps(self):
        self.assertEqual(write_derivation([]), "")
        self.assertEqual(read_derivation(""), [])

    def test_there_and_back(self):
        dice = Dice(51)
        for k in range(150):
            steps = []
            for _ in range(dice.below(4)):
                left, right = ([mixed_formula(dice, 4) for _ in range(dice.below(4))] for _ in range(2))
                main = mixed_formula(dice, 4) if dice.below(2) else None
                numbers = tuple(dice.below(10 ** dice.below(9)) for _ in range(dice.below(4)))
                steps.append((("modal", "weaken", "a", "_", "no_such_rule")[dice.below(5)], sequent(left, right), main, numbers))
            given = list(steps)
            text = write_derivation(steps)
            self.assertEqual(steps, given)
            self.assertEqual(text.count("\n"), len(steps))
            found = read_derivation(text)
            self.assertEqual(found, steps)
            self.assertIs(type(found), list)
            for _, (left, right), _, numbers in found:
                self.assertEqual([type(left), type(right), type(numbers)], [tuple] * 3)

    def test_derivations_of_the_program(self):
        dice = Dice(52)
        for logic in MODAL + INTERMEDIATE:
            for _ in range(25):
                a = mixed_formula(dice, 4, logic in INTERMEDIATE)
                decision = decide(logic, sequent([a], [lor(a, P)]))
                steps = decision.derivation()
                self.assertEqual(read_derivation(write_derivation(steps)), steps)

    def test_high_formulas(self):
        a = doubled_tower(6)
        steps = [("axiom", sequent([a], [a]), a, ())]
        self.assertEqual(read_derivation(write_derivation(steps)), steps)
        b = P
        for _ in range(59):
            b = box(b)
        steps = [("axiom", sequent([b], [b]), b, (999999999, 0))]
        self.assertEqual(read_derivation(write_derivation(steps)), steps)


class Reading(unittest.TestCase):
    def fails(self, text):
        with self.assertRaises(InvalidText, msg=repr(text)):
            read_derivation(text)

    def test_good(self):
        self.assertEqual(read_derivation(GOOD), [
            ("axiom", sequent([P], [P]), P, ()), ("weaken", sequent([P, Q], [P, R]), None, (0,)),
        ])

    def test_every_lost_or_doubled_character(self):
        # No character of this text can be left out or doubled so that a text of other steps comes out, except these.
        for k, letter in enumerate(GOOD):
            for text in (GOOD[:k] + GOOD[k + 1:], GOOD[:k] + letter + GOOD[k:]):
                try:
                    steps = read_derivation(text)
                except InvalidText:
                    continue
                self.assertEqual(write_derivation(steps), text)
                self.assertIn(letter, "abcdefghijklmnopqrstuvwxyz0,")

    def test_spaces(self):
        for text in (
            " axiom : p => p : p : \n", "axiom  : p => p : p : \n", "axiom: p => p : p : \n", "axiom :p => p : p : \n",
            "axiom :  p => p : p : \n", "axiom : p  => p : p : \n", "axiom : p=> p : p : \n", "axiom : p =>p : p : \n",
            "axiom : p =>  p : p : \n", "axiom : p => p: p : \n", "axiom : p => p  : p : \n", "axiom : p => p :p : \n",
            "axiom : p => p :  p : \n", "axiom : p => p : p: \n", "axiom : p => p : p  : \n", "axiom : p => p : p :\n",
            "axiom : p => p : p :  \n", "axiom : p => p : p : 1 \n", "axiom : p => p : p :  1\n", "axiom : p => p : p : 1  2\n",
            "axiom : p,q => p : p : \n", "axiom : p,  q => p : p : \n", "axiom : p , q => p : p : \n",
            "axiom : p, q, => p : p : \n", "axiom : , p => p : p : \n", "axiom : p, , q => p : p : \n",
            "axiom : => p : p : \n", "axiom : p => : p : \n", "falsum :  => : - : \n", "falsum : =>  : - : \n",
            "axiom : p => p : p : 1\t2\n", "axiom\t: p => p : p : \n", "axiom : p => p : p : \r\n",
        ):
            self.fails(text)

    def test_parts(self):
        for text in (
            "axiom : p => p : p\n", "axiom : p => p : \n", "axiom : p => p\n", "axiom\n", "\n", " : p => p : p : \n",
            "axiom : p => p : p :  : \n", "axiom : p => p : p : 0 : 1\n", "x : axiom : p => p : p : \n",
            "axiom : p : p : \n", "axiom : p => p => p : p : \n", "axiom : p => p :  : \n", "axiom : p => p : p, q : \n",
            "axiom : p => p : -- : \n", "axiom : p, - => p : p : \n", "axiom : - => p : p : \n", " :  =>  : - : \n",
        ):
            self.fails(text)

    def test_rules(self):
        for rule in ("", "Axiom", "axiom1", "ax-iom", "ax iom", "axiom.", "2", "\u00e9", "axi\u00f6m", "weaken\n"):
            self.fails(f"{rule} : p => p : p : \n")
        for rule in ("a", "_", "__", "no_such_rule", "z" * 200):
            self.assertEqual(read_derivation(f"{rule} : p => p : p : \n")[0][0], rule)

    def test_numbers(self):
        for number in ("00", "01", "-1", "+1", "1.", "0x1", "1_0", "1000000000", "0000000001", "a", "\u0661", "\u00b2", "1,2"):
            self.fails(f"modal : p => p : p : {number}\n")
            self.fails(f"modal : p => p : p : 3 {number}\n")
            self.fails(f"modal : p => p : p : {number} 3\n")
        for numbers in ((0,), (0, 0, 0), (999999999,), (10, 9, 123456789), (7,) * 30):
            text = "modal : p => p : p : " + " ".join(str(number) for number in numbers) + "\n"
            self.assertEqual(read_derivation(text)[0][3], numbers)

    def test_formulas(self):
        for word in (
            "(p)", "p&q", "p  & q", "(p & q) & r", "p -> (q -> r)", "(p | q) | r", "p & (q | r))", "(p & q",
            "~ p", "[] p", "[](p)", "~(p)", "<>p", "p <-> q", "F -> F", "p -> F", "(T)", "P", "p q", "abcdefghijklm",
            "[]" * 60 + "p", "p |", "1p", "p -> q ",
        ):
            self.fails(f"modal : {word} => p : p : \n")
            self.fails(f"modal : p => {word} : p : \n")
            self.fails(f"modal : p => p : {word} : \n")
        for word in ("p & (q & r)", "p & q & r", "(p -> q) -> r", "p -> q -> r", "~[]~p", "~(p -> q)", "T", "~T", "[][]F"):
            self.assertEqual(write_derivation(read_derivation(f"x : {word} => p : {word} : \n")), f"x : {word} => p : {word} : \n")

    def test_sides_ascend(self):
        for side in ("q, p", "p, p", "p, []p", "p, q, q", "p, F", "~p, F", "F, F", "r, p, q"):
            self.fails(f"modal : {side} => p : p : \n")
            self.fails(f"modal : p => {side} : p : \n")
        for side in ("p, q", "[]p, p", "F, p", "F, ~p", "p & q, []p, F, T, ~p, p -> q, p | q, p"):
            many = side.count(",") + 1
            self.assertEqual(len(read_derivation(f"modal : {side} => p : p : \n")[0][1][0]), many)
            self.assertEqual(len(read_derivation(f"modal : p => {side} : p : \n")[0][1][1]), many)

    def test_line_feeds(self):
        for text in (GOOD[:-1], "axiom : p => p : p : ", GOOD + "\n", "\n" + GOOD, GOOD.replace("\n", "\n\n"), GOOD + " ", "x"):
            self.fails(text)
        self.fails(GOOD.replace("\n", "\r\n"))
        self.fails(GOOD.replace("\n", "\u2028"))
