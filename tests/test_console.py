import unittest

from elsewhere.console import run_console
from elsewhere.errors import InvalidLine
from elsewhere.formula import height
from elsewhere.logics import INTERMEDIATE, MODAL
from elsewhere.text import parse, show
from elsewhere.theory import Theory
from tests.samples import Dice, mixed_formula

ALL = MODAL + INTERMEDIATE
# Each kind of command, which is right behind a line that begins a theory.
RIGHT = ("logic K", "assume p", "drop p", "ask p", "check", "axioms", "redundant")


class Commands(unittest.TestCase):
    def reports(self, text, *lines):
        self.assertEqual(run_console(text), "".join(line + "\n" for line in lines), text)

    def test_example(self):
        self.reports("logic K\nassume p\nassume p -> q\nask q\nask r\n", "added", "added", "yes 2", "no")

    def test_nothing(self):
        for text in ("", "\n", "\n\n\n", "# text", "#", "# logic\n\n#assume p\n", "logic K", "logic K\n", "\n# x\nlogic Int\n"):
            self.reports(text)

    def test_assume_and_drop(self):
        self.reports("logic K\nassume p\nassume p\nassume (p)\nassume p & p\ndrop p\ndrop p\ndrop q\nassume p\naxioms",
                     "added", "known", "known", "added", "dropped", "unknown", "unknown", "added", "p & p", "p")

    def test_ask(self):
        self.reports("logic Int\nask p -> p\nask p\nassume p & q\nassume r\nask p\nask p & r\nask T\nask ~~p\nask p | s\nask s",
                     "yes 0", "no", "added", "added", "yes 1", "yes 2", "yes 0", "yes 1", "yes 1", "no")
        for logic in ALL:
            self.reports(f"logic {logic}\nassume p\nassume ~p\nassume q\nask r\nask p -> p\n", "added", "added", "added", "yes 2", "yes 0")
            classical = logic in MODAL or logic == "Cl"
            self.reports(f"logic {logic}\nask p | ~p\n", "yes 0" if classical else "no")

    def test_check(self):
        self.reports("logic S5\ncheck\nassume []p\ncheck\nassume ~p\ncheck\ndrop []p\ncheck\nassume F\ncheck\n",
                     "consistent", "added", "consistent", "added", "inconsistent", "dropped", "consistent", "added", "inconsistent")

    def test_axioms_and_redundant(self):
        self.reports("logic K\naxioms\nredundant\nassume p&(q)\nassume q<->p\nassume <>T\nassume T\naxioms\nredundant\n",
                     "added", "added", "added", "added", "p & q", "(q -> p) & (p -> q)", "~[]~T", "T", "(q -> p) & (p -> q)", "T")
        self.reports("logic K\nassume q\nassume p\nassume q & p\nassume p\naxioms\nredundant\n",
                     "added", "added", "added", "known", "q", "p", "q & p", "q", "p", "q & p")

    def test_logic_begins_a_new_theory(self):
        self.reports("logic K\nassume []p\nask p\nlogic T\naxioms\nask p\nassume []p\nask p\nlogic T\nask p\nlogic Cl\nask q | ~q\n",
                     "added", "no", "no", "added", "yes 1", "no", "yes 0")
        self.reports("logic K\nlogic Int\nlogic GL\nask []([]p -> p) -> []p", "yes 0")

    def test_skipped_lines(self):
        self.reports("\n# first\nlogic K\n\n\n# assume F\n#\nassume p\n\ncheck\n# last", "added", "consistent")
        self.reports("logic K\nassume p\n", "added")
        self.reports("logic K\nassume p", "added")

    def test_spaces_inside_of_formulas(self):
        self.reports("logic K\nassume x\nask y | x\n", "added", "yes 1")
        self.reports("logic K\nassume p  &  ( q )\nask p&q\ndrop p & q\nassume ~ ~ p\nassume []  p -> <> q\n", "added", "yes 1", "dropped", "added", "added")

    def test_against_theories(self):
        dice = Dice(1501)
        for logic in ALL:
            plain = logic in INTERMEDIATE
            theory, lines, report = Theory(logic), [f"logic {logic}"], []
            for _ in range(14):
                a = mixed_formula(dice, 3, plain)
                if theory.axioms() and dice.below(2):
                    a = theory.axioms()[dice.below(len(theory.axioms()))]
                word = ("assume", "assume", "drop", "ask", "ask", "check", "axioms", "redundant")[dice.below(8)]
                lines.append(word if word in RIGHT else f"{word} {show(a)}")
                if word == "assume":
                    report.append("added" if theory.assume(a) else "known")
                elif word == "drop":
                    report.append("dropped" if a in theory.axioms() else "unknown")
                    if report[-1] == "dropped":
                        theory.drop(a)
                elif word == "ask":
                    report.append(f"yes {len(theory.core(a))}" if theory.ask(a).is_valid() else "no")
                elif word == "check":
                    report.append("consistent" if theory.is_consistent() else "inconsistent")
                else:
                    report += [show(b) for b in (theory.axioms() if word == "axioms" else theory.redundant())]
            self.reports("\n".join(lines), *report)

    def test_height(self):
        high = "~" * 49 + "p"
        self.assertEqual(height(parse(high)), 50)
        self.reports(f"logic K\nassume {high}\nask {high}\naxioms\ndrop {high}\n", "added", "yes 1", high, "dropped")


class WrongLines(unittest.TestCase):
    def fails(self, text, line):
        with self.assertRaises(InvalidLine, msg=repr(text)) as caught:
            run_console(text)
        self.assertEqual(caught.exception.line, line, repr(text))
        self.assertIs(type(caught.exception.line), int)

    def wrong(self, line, logic="K"):
        self.fails(f"logic {logic}\n{line}", 2)
        self.fails(f"logic {logic}\n{line}\n", 2)
        self.fails(f"\n# text\nlogic {logic}\n\nassume p\n#\ncheck\n{line}\nlogic S3\n{line}\n", 8)

    def test_ahead_of_the_first_logic(self):
        for line in RIGHT[1:]:
            self.fails(line, 1)
            self.fails(f"# logic K\n\n{line}\nlogic K\n", 3)

    def test_words(self):
        for line in ("p", "Assume p", "ASSUME p", "assumes p", "assum p", "tell p", "ask? p", "axiom", "Check", "quit", "logics K", "redundants", "K", "-",
                     "ask: p", "logic: K", "p -> q", "add p", "model", "core p", "independent"):
            self.wrong(line)
            self.fails(line, 1)

    def test_names_of_logics(self):
        for line in ("logic", "logic ", "logic S3", "logic k", "logic K K", "logic  K", "logic K ", " logic K", "logicK", "logic INT", "logic\tK", "logic p",
                     "logic K4.1", "Logic K", "logic K#"):
            self.wrong(line)
            self.fails(line, 1)

    def test_spaces(self):
        for word in ("assume", "drop", "ask"):
            for line in (word, f"{word} ", f"{word}  p", f"{word} p ", f"{word} p  ", f" {word} p", f"{word}p", f"{word}\tp", f"{word}(p)", f"{word}  ",
                         f"{word} p\r", f"{word} p\t", f"{word}\u00a0p"):
                self.wrong(line)
        for word in ("check", "axioms", "redundant"):
            for line in (f"{word} ", f" {word}", f"{word}  ", f"{word}\r", f"{word}\t"):
                self.wrong(line)
        for line in (" ", "   ", "\t", "\r", " #", " # text"):
            self.wrong(line)
            self.fails(line, 1)

    def test_something_behind_a_word(self):
        for word in ("check", "axioms", "redundant"):
            for more in (" p", " K", " check", " # text", "p", " 1", "."):
                self.wrong(word + more)

    def test_texts_that_are_not_taken(self):
        for text in ("p q", "p &", "(p", "p)", "P", "F F", "p -> ", "<-> p", "p <-> q <-> r", "abcdefghijklm", "1p", "p, q", "p => q", "p # text", "\u00e9", "p;",
                     "(" * 61 + "p" + ")" * 61, "~" * 60 + "p"):
            for word in ("assume", "drop", "ask"):
                self.wrong(f"{word} {text}")

    def test_boxes_in_intermediate_logics(self):
        for logic in INTERMEDIATE:
            for word in ("assume", "drop", "ask"):
                for text in ("[]p", "<>p", "p -> []p", "[]p -> []p", "T | []F"):
                    self.wrong(f"{word} {text}", logic)
        self.fails("logic K\nassume []p\nlogic Int\nask p\nask []p\n", 5)
        self.assertEqual(run_console("logic Int\nask p\nlogic K\nask []p\n"), "no\nno\n")

    def test_height(self):
        for many in (50, 55, 59, 60, 4000):
            for word in ("assume", "drop", "ask"):
                self.wrong(f"{word} {'~' * many}p")
                self.wrong(f"{word} {'[]' * many}p")

    def test_the_first_wrong_line_counts(self):
        self.fails("logic K\nassume p\n\n# text\nwrong\nlogic S3\ncheck \n", 5)
        self.fails("logic K\n" + "assume p\n\n" * 50 + "ask\n", 102)
        self.fails("\n" * 9 + "check", 10)
        self.fails("logic K\nask p\nlogic Int\nask []p\nwrong\n", 4)
