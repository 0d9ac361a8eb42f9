import unittest

from elsewhere.decision import decide
from elsewhere.derivation import derives
from elsewhere.errors import InvalidLine, InvalidText, NotPlain, UnknownLogic
from elsewhere.formula import neg, verum
from elsewhere.lines import write_derivation
from elsewhere.logics import INTERMEDIATE, MODAL, holds, is_model_of
from elsewhere.model import Model
from elsewhere.papers import answers, paper_answer, paper_holds, read_model, write_model, write_paper
from elsewhere.sequent import sequent
from elsewhere.text import parse
from tests.samples import F, P, Q, R, Dice, box, land, lor, mixed_formula, mixed_model, mixed_model_of, to, told, tower

ALL = MODAL + INTERMEDIATE

MODEL = "worlds 3\nsees 0 1\nsees 0 2\nsees 2 2\ntrue p 0 1\ntrue q2 2\n"
PROOF = "logic K\nleft p\nright p\nderivation\naxiom : p => p : p : \n"
REFUTATION = "logic K\nleft p\nright []p\nrefuted 0\nworlds 2\nsees 0 1\ntrue p 0\n"


class Models(unittest.TestCase):
    def test_texts(self):
        self.assertEqual(write_model(Model((3, ((0, 1), (0, 2), (2, 2))), {"q2": [2], "p": [1, 0]})), MODEL)
        self.assertEqual(write_model(Model((1, ()), {})), "worlds 1\n")
        self.assertEqual(write_model(Model((1, ((0, 0),)), {"a": []})), "worlds 1\nsees 0 0\n")
        self.assertEqual(write_model(Model((2, ()), {"b": [1, 1, 0, 1], "a1": [0]})), "worlds 2\ntrue a1 0\ntrue b 0 1\n")
        pairs = tuple((v, v + 1) for v in range(11))
        lines = [f"sees {v} {v + 1}" for v in range(11)]
        self.assertEqual(write_model(Model((12, pairs), {"p": [11, 2, 10]})),
                         "\n".join(["worlds 12", *lines, "true p 2 10 11", ""]))

    def test_there_and_back(self):
        dice = Dice(1001)
        for _ in range(150):
            model = mixed_model(dice, 1 + dice.below(6), ["p", "pq", "q", "x1", "x10", "abcdefghijkl"])
            text = write_model(model)
            found = read_model(text)
            self.assertIs(type(found), Model)
            self.assertEqual(told(found), told(model))
            self.assertEqual(write_model(found), text)

    def test_names_without_worlds_repetitions_and_any_order(self):
        text = write_model(Model((3, ()), {"z": [2, 0, 2, 0], "b": [], "a": [1]}))
        self.assertEqual(text, "worlds 3\ntrue a 1\ntrue z 0 2\n")
        self.assertEqual(told(read_model(text)), told(Model((3, ()), {"a": [1], "z": [0, 2]})))

    def test_many_worlds(self):
        model = read_model("worlds 999999\nsees 0 999998\ntrue p 999998\n")
        self.assertEqual(model.frame(), (999999, ((0, 999998),)))
        self.assertEqual(write_model(model), "worlds 999999\nsees 0 999998\ntrue p 999998\n")

    def test_good_texts(self):
        for text in (MODEL, "worlds 1\n", "worlds 10\n", "worlds 1\ntrue p 0\n", "worlds 2\nsees 1 0\n",
                     "worlds 2\ntrue abcdefghijkl 0 1\ntrue b 0\ntrue b0 1\n"):
            self.assertEqual(write_model(read_model(text)), text)

    def fails(self, text):
        with self.assertRaises(InvalidText, msg=repr(text)):
            read_model(text)

    def test_lines_left_out_doubled_or_exchanged(self):
        lines = MODEL.split("\n")[:-1]
        self.fails("".join(line + "\n" for line in lines[1:]))
        for k in range(len(lines)):
            self.fails("".join(line + "\n" for line in lines[:k + 1] + lines[k:]))
            for m in range(k):
                changed = list(lines)
                changed[k], changed[m] = changed[m], changed[k]
                self.fails("".join(line + "\n" for line in changed))

    def test_every_changed_text_is_read_as_another_model_or_refused(self):
        for k in range(len(MODEL)):
            for more in ("", MODEL[k] * 2, " " + MODEL[k], "0" + MODEL[k], "\n" + MODEL[k], "p" + MODEL[k], "2"):
                text = MODEL[:k] + more + MODEL[k + 1:]
                try:
                    model = read_model(text)
                except InvalidText:
                    continue
                self.assertEqual(write_model(model), text)

    def test_spaces(self):
        for text in (" worlds 2\n", "worlds  2\n", "worlds 2 \n", "worlds2\n", "worlds 2\nsees 0  1\n", "worlds 2\nsees 0 1 \n",
                     "worlds 2\n sees 0 1\n", "worlds 2\nsees  0 1\n", "worlds 2\nsees 01\n", "worlds 2\nsees0 1\n",
                     "worlds 2\ntrue p 0 \n", "worlds 2\ntrue  p 0\n", "worlds 2\ntrue p  0\n", "worlds 2\ntrue p 0  1\n",
                     "worlds 2\ntruep 0\n", "worlds 2\ntrue p\t0\n", "worlds\t2\n"):
            self.fails(text)

    def test_words(self):
        for text in ("world 2\n", "Worlds 2\n", "worlds\n", "worlds two\n", "worlds 2 3\n", "2\n", "worlds 2\nsee 0 1\n",
                     "worlds 2\nsees 0\n", "worlds 2\nsees 0 1 1\n", "worlds 2\nsees\n", "worlds 2\nsees p 0\n",
                     "worlds 2\ntrue 0\n", "worlds 2\ntrue\n", "worlds 2\nfalse p 0\n", "worlds 2\ntrue p q\n",
                     "worlds 2\ntrue p 0 q 1\n", "worlds 2\np 0\n", "worlds 2\n-\n", "worlds 2\nworlds 2\n"):
            self.fails(text)

    def test_worlds_that_do_not_exist(self):
        for text in ("worlds 2\nsees 0 2\n", "worlds 2\nsees 2 0\n", "worlds 2\ntrue p 2\n", "worlds 2\ntrue p 0 1 2\n",
                     "worlds 1\nsees 1 1\n", "worlds 2\ntrue p 999999\n"):
            self.fails(text)

    def test_numbers(self):
        for number in ("00", "01", "002", "-1", "+1", "-0", "1.0", "1e0", "0x1", "1_0", "1000000", "0000001", "1,", "a", "",
                       "\u0661", "\u00b2", "\uff11"):
            self.fails(f"worlds {number}\n")
            self.fails(f"worlds 2\nsees {number} 1\n")
            self.fails(f"worlds 2\nsees 0 {number}\n")
            self.fails(f"worlds 2\ntrue p {number}\n")
            self.fails(f"worlds 2\ntrue p 0 {number}\n")
        self.fails("worlds 0\n")

    def test_names(self):
        for name in ("P", "1p", "p_", "pQ", "abcdefghijklm", "p.", "~p", "F", "T", "", "\u00e9", "p\u00e9", "p\u0661", "0", "-"):
            self.fails(f"worlds 2\ntrue {name} 0\n")
            self.fails(f"worlds 2\ntrue {name}\n")
        self.fails("worlds 2\ntrue p\n")
        self.fails("worlds 2\ntrue p \n")

    def test_what_does_not_ascend(self):
        for text in ("worlds 3\nsees 1 0\nsees 0 1\n", "worlds 3\nsees 0 1\nsees 0 1\n", "worlds 3\nsees 0 2\nsees 0 1\n",
                     "worlds 3\nsees 0 1\nsees 1 2\nsees 1 0\n", "worlds 3\ntrue p 1 0\n", "worlds 3\ntrue p 1 1\n",
                     "worlds 3\ntrue p 0 2 1\n", "worlds 3\ntrue q 0\ntrue p 0\n", "worlds 3\ntrue p 0\ntrue p 1\n",
                     "worlds 3\ntrue p2 0\ntrue p10 0\n", "worlds 3\ntrue p 0\nsees 0 1\n", "worlds 12\nsees 0 10\nsees 0 9\n",
                     "worlds 12\ntrue p 10 9\n", "sees 0 1\nworlds 3\n"):
            self.fails(text)
        read_model("worlds 12\nsees 0 9\nsees 0 10\nsees 9 0\nsees 10 0\ntrue p10 9 10\ntrue p2 0\n")

    def test_line_feeds(self):
        for text in ("", "\n", "worlds 1", MODEL[:-1], MODEL + "\n", "\n" + MODEL, MODEL.replace("\n", "\n\n"), MODEL + " ",
                     MODEL.replace("\n", "\r\n"), MODEL.replace("\n", "\r"), MODEL.replace("\n", "\u2028"), "worlds 1\n\n"):
            self.fails(text)


class Writing(unittest.TestCase):
    def test_first_lines(self):
        for logic in ALL:
            for goal, left, right in (
                (sequent([], []), "", ""), (sequent([P], []), "p", ""), (sequent([], [P, neg(P)]), "", "~p, p"),
                (sequent([lor(Q, P), P], [verum(), F]), "q | p, p", "F, T"),
            ):
                lines = write_paper(logic, goal).split("\n")
                self.assertEqual(lines[:3], [f"logic {logic}", f"left {left}", f"right {right}"])

    def test_whole_papers(self):
        self.assertEqual(write_paper("K", sequent([P], [P])), PROOF)
        self.assertEqual(write_paper("K", sequent([F], [])), "logic K\nleft F\nright \nderivation\nfalsum : F =>  : - : \n")
        self.assertEqual(write_paper("S5", sequent([P], [])), "logic S5\nleft p\nright \nrefuted 0\nworlds 1\nsees 0 0\ntrue p 0\n")

    def test_the_paper_tells_the_decision(self):
        dice = Dice(1002)
        for logic in ALL:
            for _ in range(12):
                goal = drawn_sequent(dice, logic)
                text = write_paper(logic, goal)
                decision = decide(logic, goal)
                self.assertEqual(paper_answer(text), "valid" if decision.is_valid() else "refuted")
                if decision.is_valid():
                    self.assertTrue(text.endswith("derivation\n" + write_derivation(decision.derivation())))
                else:
                    self.assertTrue(text.endswith(f"refuted {decision.world()}\n" + write_model(decision.model())))
                self.assertIs(paper_holds(text), True)

    def test_errors(self):
        for logic in ("", "k", "S3", "INT", "K "):
            with self.assertRaises(UnknownLogic):
                write_paper(logic, sequent([], [P]))
            with self.assertRaises(UnknownLogic):
                write_paper(logic, sequent([box(P)], [box(P)]))
        for logic in INTERMEDIATE:
            for goal in (sequent([box(P)], []), sequent([], [P, neg(box(F))]), sequent([P], [P, land(P, box(P))])):
                with self.assertRaises(NotPlain):
                    write_paper(logic, goal)


def drawn_sequent(dice, logic):
    plain = logic in INTERMEDIATE
    left = [mixed_formula(dice, 3, plain) for _ in range(dice.below(3))]
    right = [mixed_formula(dice, 4, plain) for _ in range(dice.below(3))]
    return sequent(left, right)


class Holding(unittest.TestCase):
    def right(self, text):
        self.assertIs(paper_holds(text), True, text)

    def wrong(self, text):
        self.assertIs(paper_holds(text), False, text)

    def test_derivations(self):
        self.right(PROOF)
        for logic in ALL:
            self.right(PROOF.replace("logic K", "logic " + logic))
        self.right("logic K\nleft \nright T\nderivation\nfalsum : F => F, T : - : \nimplies_right :  => T : T : 0\n")
        self.wrong("logic K\nleft \nright T\nderivation\nfalsum : F => F : - : \nimplies_right :  => T : T : 0\n")
        self.right("logic Int\nleft \nright T\nderivation\nfalsum : F => F : - : \nimplies_right :  => T : T : 0\n")
        self.wrong("logic Int\nleft \nright p\nderivation\naxiom : p => p : p : \n")

    def test_changed_derivations(self):
        for old, new in (
            ("left p", "left p, q"), ("left p", "left "), ("right p", "right q"), ("right p", "right []p, p"),
            ("axiom", "falsum"), ("axiom", "no_such_rule"), ("p => p : p : ", "p => p : q : "), ("p => p : p : ", "p => p : - : "),
            ("p => p : p : ", "p => p : p : 0"), ("p => p : p : ", "p => q : p : "), ("axiom : p => p : p : \n", ""),
            ("p : \n", "p : \nweaken : p => p, q : - : 0\n"),
        ):
            self.assertIn(old, PROOF)
            self.wrong(PROOF.replace(old, new))

    def test_derivations_in_another_logic(self):
        text = write_paper("T", sequent([box(P)], [P]))
        self.right(text)
        for logic in ALL:
            changed = text.replace("logic T", "logic " + logic)
            self.assertIs(paper_holds(changed), logic in ("T", "S4", "S5", "Grz"), logic)
        text = write_paper("K", sequent([], [lor(P, neg(P))]))
        for logic in ALL:
            changed = text.replace("logic K", "logic " + logic)
            self.assertIs(paper_holds(changed), logic in MODAL + ("Cl",), logic)

    def test_no_steps(self):
        for goal in ("left p\nright p\n", "left \nright \n", "left F\nright \n"):
            self.wrong(f"logic K\n{goal}derivation\n")
            self.assertEqual(paper_answer(f"logic K\n{goal}derivation\n"), "valid")

    def test_models(self):
        self.right(REFUTATION)
        self.right("logic Int\nleft \nright p | ~p\nrefuted 0\nworlds 2\nsees 0 0\nsees 0 1\nsees 1 1\ntrue p 1\n")
        self.right("logic Cl\nleft \nright \nrefuted 2\nworlds 3\nsees 0 0\nsees 1 1\nsees 2 2\n")
        self.right("logic K\nleft \nright p\nrefuted 1\nworlds 2\ntrue p 0\n")

    def test_changed_models(self):
        for old, new in (
            ("refuted 0", "refuted 1"), ("refuted 0", "refuted 2"), ("refuted 0", "refuted 999999"), ("left p", "left q"),
            ("left p", "left []p"), ("right []p", "right p"), ("right []p", "right T"), ("right []p", "right []p, p"),
            ("sees 0 1\n", ""), ("true p 0", "true p 1"), ("true p 0", "true p 0 1"), ("true p 0\n", ""), ("left p", "left F, p"),
            ("logic K", "logic T"), ("logic K", "logic D"), ("logic K", "logic S4"), ("logic K", "logic S5"), ("logic K", "logic Grz"),
            ("logic K", "logic D4"), ("logic K", "logic Int"), ("logic K", "logic Cl"),
        ):
            self.assertIn(old, REFUTATION)
            self.wrong(REFUTATION.replace(old, new))
        for logic in ("K4", "GL"):
            self.right(REFUTATION.replace("logic K", "logic " + logic))

    def test_worlds_that_do_not_exist(self):
        for goal in ("left \nright \n", "left \nright p\n", "left T\nright \n"):
            self.right(f"logic K\n{goal}refuted 1\nworlds 2\n")
            for world in (2, 3, 999999):
                self.wrong(f"logic K\n{goal}refuted {world}\nworlds 2\n")

    def test_each_formula_counts(self):
        head, model = "logic K\n", "refuted 0\nworlds 1\ntrue p 0\ntrue q 0\n"
        self.right(head + "left p, q\nright r\n" + model)
        self.wrong(head + "left p, r\nright \n" + model)
        self.wrong(head + "left r, q\nright \n".replace("r, q", "q, r") + model)
        self.wrong(head + "left \nright p, r\n" + model)
        self.wrong(head + "left \nright q, r\n" + model)
        self.wrong(head + "left \nright r, s, q\n".replace("r, s, q", "q, r, s") + model)

    def test_models_that_do_not_stay_true(self):
        for logic in INTERMEDIATE:
            worlds = "worlds 1\nsees 0 0\n" if logic == "Cl" else "worlds 2\nsees 0 0\nsees 0 1\nsees 1 1\n"
            self.right(f"logic {logic}\nleft \nright p\nrefuted 0\n{worlds}")
            if logic != "Cl":
                self.wrong(f"logic {logic}\nleft \nright q\nrefuted 0\n{worlds}true p 0\n")
                self.right(f"logic {logic}\nleft \nright q\nrefuted 0\n{worlds}true p 0 1\n")
        self.right("logic Grz\nleft \nright q\nrefuted 0\nworlds 2\nsees 0 0\nsees 0 1\nsees 1 1\ntrue p 0\n")

    def test_truth_is_that_of_the_logic(self):
        model = "refuted 0\nworlds 2\nsees 0 0\nsees 0 1\nsees 1 1\ntrue p 1\n"
        for logic in MODAL:
            self.wrong(f"logic {logic}\nleft \nright p | ~p\n{model}")
        for logic in ("Int", "KC", "LC", "BD2", "HT"):
            self.right(f"logic {logic}\nleft \nright p | ~p\n{model}")

    def test_boxes_in_intermediate_logics(self):
        for logic in INTERMEDIATE:
            for goal in ("left []p\nright []p\n", "left \nright []p\n", "left []p\nright \n", "left p\nright []p, p\n"):
                self.wrong(f"logic {logic}\n{goal}derivation\naxiom : []p => []p : []p : \n")
                self.wrong(f"logic {logic}\n{goal}derivation\n")
                self.wrong(f"logic {logic}\n{goal}refuted 0\nworlds 1\nsees 0 0\n")
                self.assertEqual(paper_answer(f"logic {logic}\n{goal}refuted 0\nworlds 1\nsees 0 0\n"), "refuted")

    def test_other_models_of_the_logic(self):
        dice = Dice(1003)
        seen = {True: 0, False: 0}
        for logic in ALL:
            for _ in range(15):
                goal, model = drawn_sequent(dice, logic), mixed_model_of(dice, logic, 1 + dice.below(4), "pqr")
                text = write_paper(logic, goal)
                head = "".join(line + "\n" for line in text.split("\n")[:3])
                for v in range(model.frame()[0]):
                    refuted = all(v in holds(logic, model, a) for a in goal[0])
                    refuted = refuted and not any(v in holds(logic, model, a) for a in goal[1])
                    seen[refuted] += 1
                    self.assertIs(paper_holds(f"{head}refuted {v}\n{write_model(model)}"), refuted)
                    if refuted:
                        self.assertEqual(paper_answer(text), "refuted")
        self.assertGreater(min(seen.values()), 100)


class NoPapers(unittest.TestCase):
    def fails(self, text):
        for call in (paper_holds, paper_answer):
            with self.assertRaises(InvalidText, msg=repr(text)):
                call(text)

    def test_lines_left_out_doubled_or_exchanged(self):
        for paper in (PROOF, REFUTATION):
            lines = paper.split("\n")[:-1]
            for k in range(4):
                self.fails("".join(line + "\n" for line in lines[:k] + lines[k + 1:]))
                self.fails("".join(line + "\n" for line in lines[:k] + ["", *lines[k:]]))
                self.fails("".join(line + "\n" for line in lines[:k + 1] + lines[k:]))
                for m in range(k):
                    changed = list(lines)
                    changed[k], changed[m] = changed[m], changed[k]
                    self.fails("".join(line + "\n" for line in changed))

    def test_names_of_logics(self):
        for name in ("", "k", "S3", "INT", " K", "K ", "K4 ", "K K", "[]p"):
            self.fails(PROOF.replace("logic K", "logic " + name))

    def test_spaces_and_words(self):
        for old, new in (
            ("logic K", "logicK"), ("logic K", "logic  K"), ("logic K", " logic K"), ("logic K", "Logic K"), ("logic K", "K"),
            ("left p", "leftp"), ("left p", "left  p"), ("left p", "left p "), ("left p", " left p"), ("left p", "Left p"),
            ("left p", "left"), ("right p", "right"), ("right p", "right  p"), ("right p", "right p "), ("right p", "rightp"),
            ("derivation", "derivation "), ("derivation", " derivation"), ("derivation", "Derivation"), ("derivation", "derivation 0"),
            ("derivation", "valid"), ("derivation", "refuted 0"), ("derivation", ""), ("derivation\n", "derivation\n\n"),
        ):
            self.assertIn(old, PROOF)
            self.fails(PROOF.replace(old, new))
        for old, new in (
            ("refuted 0", "refuted"), ("refuted 0", "refuted "), ("refuted 0", "refuted  0"), ("refuted 0", "refuted 0 "),
            ("refuted 0", "refuted0"), ("refuted 0", "refuted 0 1"), ("refuted 0", "derivation"), ("refuted 0", " refuted 0"),
        ):
            self.fails(REFUTATION.replace(old, new))

    def test_numbers(self):
        for number in ("00", "01", "-1", "+0", "1.0", "a", "1000000", "0000000", "1_0", "\u0660", "\u00b2", "p"):
            self.fails(REFUTATION.replace("refuted 0", "refuted " + number))

    def test_sides(self):
        for side in ("q, p", "p, p", "p, []p", "(p)", "p&q", "p & q & r)", "(p & q) & r", "p,q", "p ,q", "p, ", ", p", "p q", "~ p",
                     "<>p", "p <-> q", "F -> F", "-", "[]" * 60 + "p", "P", "p  & q", "abcdefghijklm", "p =>", "=> p"):
            self.fails(f"logic K\nleft {side}\nright p\nderivation\n")
            self.fails(f"logic K\nleft p\nright {side}\nderivation\n")
            self.fails(f"logic K\nleft {side}\nright p\nrefuted 0\nworlds 1\n")

    def test_line_feeds(self):
        for paper in (PROOF, REFUTATION):
            for text in (paper[:-1], paper + "\n", "\n" + paper, paper + " ", paper.replace("\n", "\r\n"),
                         paper.replace("\n", "\n\n"), "", "\n", "logic K\n", "logic K\nleft p\nright p\n"):
                self.fails(text)
        self.fails("logic K\nleft p\nright p\nderivation")
        self.fails("logic K\nleft p\nright p\nrefuted 0")
        self.fails("logic K\nleft p\nright p\nrefuted 0\n")

    def test_faults_of_the_derivation(self):
        for line in ("axiom : p => p : p :", "axiom : q, p => p : p : ", "axiom : p => (p) : p : ", "Axiom : p => p : p : ",
                     "axiom : p => p : p : 01", "axiom : p => p : p", "axiom : p = > p : p : ", "worlds 1", " "):
            self.fails(f"logic K\nleft p\nright p\nderivation\n{line}\n")

    def test_faults_of_the_model(self):
        for text in ("", "worlds 0\n", "worlds 1\nsees 0 1\n", "worlds 2\ntrue p 1 0\n", "worlds 2\ntrue q 0\ntrue p 0\n", "worlds 1",
                     "worlds 01\n", "worlds 2\nsees 1 0\nsees 0 1\n", "worlds 1\ntrue p\n", "axiom : p => p : p : \n", "worlds 1\n\n"):
            self.fails("logic K\nleft p\nright []p\nrefuted 0\n" + text)

    def test_answers_of_good_papers(self):
        self.assertEqual(paper_answer(PROOF), "valid")
        self.assertEqual(paper_answer(REFUTATION), "refuted")
        self.assertEqual(paper_answer(PROOF.replace("axiom", "cut")), "valid")
        self.assertEqual(paper_answer(REFUTATION.replace("refuted 0", "refuted 77")), "refuted")


class Truth(unittest.TestCase):
    """A paper that holds tells the truth, whoever has written it."""

    def test_changed_papers_that_hold(self):
        dice = Dice(1004)
        kept = 0
        for logic in ALL:
            for _ in range(6):
                goal = drawn_sequent(dice, logic)
                lines = write_paper(logic, goal).split("\n")
                for other in ALL:
                    for text in ("\n".join(["logic " + other, *lines[1:]]), "\n".join([*lines[:2], "right ", *lines[3:]]),
                                 "\n".join([lines[0], "left ", *lines[2:]])):
                        try:
                            held = paper_holds(text)
                        except InvalidText:
                            continue
                        if held:
                            kept += 1
                            self.check(text)
        self.assertGreater(kept, 300)

    def check(self, text):
        name, left, right = text.split("\n")[:3]
        goal = tuple(tuple(parse(word) for word in side.split(", ") if word) for side in (left[5:], right[6:]))
        self.assertEqual(paper_answer(text), "valid" if decide(name[6:], goal).is_valid() else "refuted")

    def test_no_derivation_that_holds_is_refuted(self):
        dice = Dice(1005)
        for logic in ALL:
            models = [mixed_model_of(dice, logic, 1 + dice.below(4), "pqr") for _ in range(10)]
            for model in models:
                self.assertTrue(is_model_of(logic, model))
            for _ in range(10):
                goal = drawn_sequent(dice, logic)
                decision = decide(logic, goal)
                if decision.is_valid():
                    for step in decision.derivation():
                        for model in models:
                            marks = [[v in holds(logic, model, a) for v in range(model.frame()[0])] for a in step[1][0]]
                            others = [[v in holds(logic, model, a) for v in range(model.frame()[0])] for a in step[1][1]]
                            for v in range(model.frame()[0]):
                                self.assertFalse(all(m[v] for m in marks) and not any(m[v] for m in others))


class Questions(unittest.TestCase):
    def test_simple_ones(self):
        self.assertEqual(answers("K : p => p\n"), [PROOF])
        self.assertEqual(answers("K : p => p"), [PROOF])
        self.assertEqual(answers("K : p => p\nK : p => []p"), [PROOF, write_paper("K", sequent([P], [box(P)]))])
        self.assertEqual(answers(""), [])
        self.assertEqual(answers("\n"), [])
        self.assertEqual(answers("\n\n# K : p\n#\n\n"), [])
        self.assertIs(type(answers("K : p => p")), list)

    def test_each_logic(self):
        text = "".join(f"{logic} : p -> q, ~q => ~p, r\n" for logic in ALL)
        goal = sequent([to(P, Q), neg(Q)], [neg(P), R])
        self.assertEqual(answers(text), [write_paper(logic, goal) for logic in ALL])

    def test_lists(self):
        for line, goal in (
            ("K : => ", sequent([], [])), ("K : =>", sequent([], [])), ("K :    =>   ", sequent([], [])),
            ("K : p=>q", sequent([P], [Q])), ("K :    p   =>   q   ", sequent([P], [Q])), ("K : =>p", sequent([], [P])),
            ("K : p =>", sequent([P], [])), ("K : q,p,q , p=>r  ,r", sequent([P, Q], [R])),
            ("K : r, q, p => F, p", sequent([P, Q, R], [P, F])), ("K : ( p ) , [ ] p => p".replace("[ ]", "[]"), sequent([P, box(P)], [P])),
            ("K : p&q, ~  p , p<->q => <>p", sequent([land(P, Q), neg(P), parse("p <-> q")], [parse("<>p")])),
            ("K : p, (p), ((p)) => T", sequent([P], [verum()])), ("K : x => y", sequent([("var", "x")], [("var", "y")])),
        ):
            found = answers(line)
            self.assertEqual(found, [write_paper("K", goal)], line)
            self.assertIs(paper_holds(found[0]), True)

    def test_skipped_lines(self):
        text = "# first\n\nK : p => p\n#K : q => \n\n\nInt : => p\n\n#"
        self.assertEqual(answers(text), [PROOF, write_paper("Int", sequent([], [P]))])
        self.assertEqual(answers(text + "\n"), answers(text))

    def test_height(self):
        high = "~" * 49 + "p"
        self.assertEqual(paper_answer(answers(f"K : {high} => {high}")[0]), "valid")
        self.fails(f"K : p => p\nK : {high} => ~{high}\n", 2)
        self.fails(f"K : ~{high} => p\n", 1)
        self.fails(f"K : {'~' * 59}p => p\n", 1)
        self.fails(f"K : {'~' * 60}p => p\n", 1)
        self.fails(f"K : {'[]' * 5000}p => p\n", 1)

    def fails(self, text, line):
        with self.assertRaises(InvalidLine, msg=repr(text)) as caught:
            answers(text)
        self.assertEqual(caught.exception.line, line, repr(text))
        self.assertIs(type(caught.exception.line), int)

    def test_wrong_lines(self):
        for line in (
            "S3 : p => p", "k : p => p", " K : p => p", "K  : p => p", "K: p => p", "K :p => p", "K : p", "K : p, q", "K", "K : ", "p => p",
            ": p => p", " : p => p", "K : p => p => p", "K : => =>", "K : p = > p", "K : p -> p", "K : p, => p", "K : , => p", "K : p => ,",
            "K : ,p => p", "K : p,,q => p", "K : p, ,q => p", "K : p q => p", "K : P => p", "K : (p => p)", "K : p) => p", "K : [] => p",
            "K : p => p & ", "K : p => abcdefghijklm", "K : p : q => p", "K : p => p : q", "K : K : p => p", "Int : []p => p", "Cl : => <>p",
            "LC : p, q | [][]p => p", "KC : p => p, F & []F", " ", "     ", "\t", " # K : p => p", "K : p => p\r", "K\t: p => p", "K :\tp => p",
            "K : p\u00a0=> p", "-", "K : p =>\tq", "K : \u00e9 => p", "K : p => p;", "Int : p => p # text",
        ):
            self.fails(line, 1)
            self.fails(line + "\n", 1)
            self.fails("K : p => p\n\n# text\nInt : => p\n" + line + "\nK : p", 5)

    def test_the_first_wrong_line_counts(self):
        self.fails("# x\n\n\nS3 : => p\nK : =>\nS3 : => p\n", 4)
        self.fails("\n" * 99 + "K", 100)


class Arguments(unittest.TestCase):
    def test_nothing_is_changed(self):
        model = Model((2, ((0, 1),)), {"p": [1]})
        before = told(model)
        write_model(model)
        self.assertEqual(told(model), before)
        goal = sequent([P, box(P)], [Q])
        write_paper("K", goal)
        self.assertEqual(goal, ((box(P), P), (Q,)))
        found = answers("K : p => p")
        found.append("x")
        self.assertEqual(answers("K : p => p"), [PROOF])

    def test_derivations_of_papers(self):
        self.assertTrue(derives("K", [("axiom", ((P,), (P,)), P, ())], ((P,), (P,))))
        self.assertEqual(paper_answer(write_paper("GL", sequent([], [to(box(to(box(P), P)), box(P))]))), "valid")
        self.assertEqual(paper_answer(write_paper("K4", sequent([], [to(box(to(box(P), P)), box(P))]))), "refuted")
        high = tower(box, 49)
        self.assertIs(paper_holds(write_paper("Grz", sequent([high], [P]))), True)
        self.assertIs(paper_holds(write_paper("Grz", sequent([P], [high]))), True)
