import unittest

from elsewhere.errors import ElsewhereError, InvalidText
from elsewhere.formula import dia, height, iff, neg, size
from elsewhere.text import parse, show
from tests.samples import Dice, F, P, Q, R, T, box, land, lor, mixed_formula, small_formulas, to, tower


class ParserCase(unittest.TestCase):
    def reads(self, text, a):
        self.assertEqual(parse(text), a, text)

    def refuses(self, text):
        with self.assertRaises(InvalidText, msg=repr(text[:60])) as caught:
            parse(text)
        self.assertEqual(type(caught.exception).__bases__, (ElsewhereError,))


class Tokens(ParserCase):
    def test_atoms(self):
        self.reads("p", P)
        self.reads("F", F)
        self.reads("T", T)
        self.reads("(p)", P)
        self.reads("((F))", F)

    def test_signs(self):
        self.reads("~p", neg(P))
        self.reads("[]p", box(P))
        self.reads("<>p", dia(P))
        self.reads("p & q", land(P, Q))
        self.reads("p | q", lor(P, Q))
        self.reads("p -> q", to(P, Q))
        self.reads("p <-> q", iff(P, Q))

    def test_spaces_between_tokens(self):
        self.reads("  (  p&q  )->  ~  []  <>  r  <->F|T  ", parse("(p&q)->~[]<>r<->F|T"))
        self.reads("(p&q)->~[]<>r<->F|T", iff(to(land(P, Q), neg(box(dia(R)))), lor(F, T)))
        self.reads("~ ~p", neg(neg(P)))
        self.reads("[][]p", box(box(P)))

    def test_spaces_inside_tokens(self):
        for text in ("p - > q", "p < -> q", "p <- > q", "[ ]p", "< >p", "< - > p", "p < - > q"):
            self.refuses(text)

    def test_a_space_ends_a_name(self):
        for text in ("p q", "p 1", "ab c & d", "p(q)", "(p)q", "(p)(q)", "pF", "Fp", "T F", "TT", "p T"):
            self.refuses(text)

    def test_names(self):
        for name in ("a", "z", "x1", "a0b1c2", "abcdefghijkl", "z99999999999"):
            self.reads(name, ("var", name))
            self.reads("~" + name + "&" + name, land(neg(("var", name)), ("var", name)))
        for name in ("abcdefghijklm", "z999999999999", "1", "0p", "1 p", "p & 2q", "a" * 100000):
            self.refuses(name)

    def test_nothing(self):
        for text in ("", " ", "     ", "()", "( )", "p & ()"):
            self.refuses(text)

    def test_other_characters(self):
        for text in (
            "P", "pQ", "Tp", "A & b", "p\t& q", "p\n", "\np", "p\r", "p & q\n", "p_1", "p'", "p.", "p,q", "p => q",
            "p = q", "!p", "p -> q;", "p \\/ q", "p - q", "p < q", "p > q", "[p]", "p ] q", "#", "\u00e9", "p\u00a0",
            "\u03b1", "p\u0661", "\u0661", "p \u2192 q", "\u00acp", "\uff50", "p\x00", "\x00", "\u2003p", "p\u0300",
        ):
            self.refuses(text)

    def test_texts_that_are_none(self):
        for text in (
            "&", "|", "->", "<->", "~", "[]", "<>", "(", ")", "p &", "& p", "p |", "| p", "p ->", "-> p", "p <->",
            "<-> p", "p ~", "p []", "p <> q", "p ~ q", "p & | q", "p -> -> q", "p <-> <-> q", "(p", "p)", ")p(",
            "(p))", "((p)", "(p & q", "p & (q", "~(", "~)", "[](p", "p & -> q", "~ & p", "p & ~", "p () q", "(~)p", "p (", "p ( (", "p(q", "p & q (r | q",
        ):
            self.refuses(text)


class Grouping(ParserCase):
    def test_or_and_and_group_to_the_left(self):
        self.reads("p | q | r", lor(lor(P, Q), R))
        self.reads("p & q & r", land(land(P, Q), R))
        self.reads("p & q & r & p", land(land(land(P, Q), R), P))
        self.reads("p | (q | r)", lor(P, lor(Q, R)))
        self.reads("p & (q & r)", land(P, land(Q, R)))

    def test_implies_groups_to_the_right(self):
        self.reads("p -> q -> r", to(P, to(Q, R)))
        self.reads("p -> q -> r -> p", to(P, to(Q, to(R, P))))
        self.reads("(p -> q) -> r", to(to(P, Q), R))

    def test_equivalence_does_not_group(self):
        self.refuses("p <-> q <-> r")
        self.refuses("(p <-> q <-> r)")
        self.refuses("p <-> q -> r <-> p")
        self.reads("(p <-> q) <-> r", iff(iff(P, Q), R))
        self.reads("p <-> (q <-> r)", iff(P, iff(Q, R)))

    def test_levels(self):
        self.reads("p & q | r", lor(land(P, Q), R))
        self.reads("p | q & r", lor(P, land(Q, R)))
        self.reads("p | q -> r", to(lor(P, Q), R))
        self.reads("p -> q | r", to(P, lor(Q, R)))
        self.reads("p & q -> q & r", to(land(P, Q), land(Q, R)))
        self.reads("p -> q <-> r -> p", iff(to(P, Q), to(R, P)))
        self.reads("p <-> q | r", iff(P, lor(Q, R)))
        self.reads("p & (q | r)", land(P, lor(Q, R)))
        self.reads("(p -> q) & r", land(to(P, Q), R))

    def test_prefixes(self):
        self.reads("~p & q", land(neg(P), Q))
        self.reads("p & ~q", land(P, neg(Q)))
        self.reads("[]p -> p", to(box(P), P))
        self.reads("~[]<>~p", neg(box(dia(neg(P)))))
        self.reads("~(p & q)", neg(land(P, Q)))
        self.reads("[]p | <>q", lor(box(P), dia(Q)))
        self.reads("~F", T)
        self.reads("~T", neg(T))


class Bounds(ParserCase):
    def test_brackets(self):
        self.reads("(" * 60 + "p" + ")" * 60, P)
        self.reads("(" * 60 + "p" + ")" * 60 + " & " + "(" * 60 + "q" + ")" * 60, land(P, Q))
        self.refuses("(" * 61 + "p" + ")" * 61)
        self.refuses("q & (" + "(" * 60 + "p" + ")" * 60 + ")")

    def test_heights_of_prefixes(self):
        self.reads("~" * 59 + "p", tower(neg, 59))
        self.refuses("~" * 60 + "p")
        self.reads("[]" * 59 + "p", tower(box, 59))
        self.refuses("[]" * 60 + "p")
        self.reads("<>" * 19 + "[]" * 2 + "p", tower(dia, 19, box(box(P))))
        self.refuses("<>" * 19 + "[]" * 3 + "p")
        self.refuses("<>" * 20 + "p")
        self.reads("~" * 59 + "F", tower(neg, 59, F))
        self.refuses("~" * 60 + "F")
        self.reads("~" * 58 + "T", tower(neg, 58, T))
        self.refuses("~" * 59 + "T")
        self.refuses("[]" * 59 + "T")

    def test_heights_of_operators(self):
        self.reads("p -> " * 59 + "p", tower(lambda a: to(P, a), 59))
        self.refuses("p -> " * 60 + "p")
        self.reads("p" + " & p" * 59, tower(lambda a: land(a, P), 59))
        self.refuses("p" + " & p" * 60)
        self.reads("p" + " | p" * 59, tower(lambda a: lor(a, P), 59))
        self.refuses("p" + " | p" * 60)
        self.refuses("p -> " * 59 + "T")
        self.refuses("T" + " & p" * 59)
        self.refuses("T" + " | p" * 59)
        self.reads("p" + " & p" * 58 + " & T", land(tower(lambda a: land(a, P), 58), T))

    def test_heights_of_equivalences(self):
        left, right = "p", "p"
        for _ in range(29):
            left, right = f"({left} <-> q)", f"(q <-> {right})"
        for text in (left, right):
            self.assertEqual(height(parse(text)), 59)
            self.assertEqual(height(parse("~" + text)), 60)
            self.refuses("~~" + text)
            self.refuses(text + " <-> q")
            self.refuses("q <-> " + text)
        self.assertEqual(size(parse(left)), 6 * 2 ** 29 - 5)
        self.reads("[]" * 57 + "p <-> q", iff(tower(box, 57), Q))
        self.refuses("[]" * 58 + "T <-> q")
        self.refuses("q <-> " + "[]" * 58 + "p & p")

    def test_heights_inside_of_brackets(self):
        self.reads("~(" * 59 + "p" + ")" * 59, tower(neg, 59))
        self.refuses("~(" * 60 + "p" + ")" * 60)
        self.refuses("(" + "~" * 60 + "p) & q")

    def test_long_texts_that_are_refused(self):
        for many in (2000, 30000):
            for text in (
                "~" * many + "p", "[]" * many + "p", "<>" * many + "p", "~" * many, "(" * many + "p" + ")" * many,
                "(" * many, ")" * many, "p" + ")" * many, "p -> " * many + "p", "p" + " & p" * many,
                "p" + " | p" * many, "p" + " <-> p" * many, "p " * many, "~(" * many + "p" + ")" * many,
                "(" * many + "p" + " & p)" * many, "(p -> " * many + "p" + ")" * many, "T" * many, "[](" * many,
                "()" * many, "-> " * many, "p & " * many,
            ):
                self.refuses(text)

    def test_long_texts_that_are_read(self):
        self.reads(" " * 20000 + "p" + " " * 20000, P)
        text, a = "p", P
        for k in range(12):
            sign, join = (("&", land), ("|", lor), ("->", to))[k % 3]
            text, a = f"({text}{sign}{text})", join(a, a)
        self.reads(text, a)
        row = " & ".join(["p"] * 50)
        many = " | ".join([row] * 10)
        wanted = tower(lambda b: lor(b, tower(lambda a: land(a, P), 49)), 9, tower(lambda a: land(a, P), 49))
        self.reads(many, wanted)
        row = " & ".join(["p"] * 20)
        wanted = tower(lambda a: land(a, P), 19)
        self.reads(f"({row}) -> " * 40 + "p", tower(lambda a: to(wanted, a), 40))


class Showing(unittest.TestCase):
    def shows(self, a, text):
        self.assertEqual(show(a), text)
        self.assertEqual(parse(text), a)

    def test_atoms_and_prefixes(self):
        self.shows(P, "p")
        self.shows(("var", "a1b2"), "a1b2")
        self.shows(F, "F")
        self.shows(T, "T")
        self.shows(neg(P), "~p")
        self.shows(neg(neg(P)), "~~p")
        self.shows(box(P), "[]p")
        self.shows(dia(P), "~[]~p")
        self.shows(box(F), "[]F")
        self.shows(neg(box(neg(box(Q)))), "~[]~[]q")

    def test_negations_of_truth(self):
        self.shows(neg(T), "~T")
        self.shows(neg(neg(T)), "~~T")
        self.shows(box(T), "[]T")
        self.shows(to(T, P), "T -> p")
        self.shows(to(P, T), "p -> T")
        self.shows(to(T, T), "T -> T")
        self.shows(to(F, P), "F -> p")
        self.shows(to(F, T), "F -> T")
        self.shows(land(F, T), "F & T")

    def test_prefixes_of_operators(self):
        for prefix, step in (("~", neg), ("[]", box)):
            self.shows(step(land(P, Q)), prefix + "(p & q)")
            self.shows(step(lor(P, Q)), prefix + "(p | q)")
            self.shows(step(to(P, Q)), prefix + "(p -> q)")

    def test_operators_on_the_left(self):
        self.shows(to(to(P, Q), R), "(p -> q) -> r")
        self.shows(to(lor(P, Q), R), "p | q -> r")
        self.shows(to(land(P, Q), R), "p & q -> r")
        self.shows(lor(to(P, Q), R), "(p -> q) | r")
        self.shows(lor(lor(P, Q), R), "p | q | r")
        self.shows(lor(land(P, Q), R), "p & q | r")
        self.shows(land(to(P, Q), R), "(p -> q) & r")
        self.shows(land(lor(P, Q), R), "(p | q) & r")
        self.shows(land(land(P, Q), R), "p & q & r")

    def test_operators_on_the_right(self):
        self.shows(to(P, to(Q, R)), "p -> q -> r")
        self.shows(to(P, lor(Q, R)), "p -> q | r")
        self.shows(to(P, land(Q, R)), "p -> q & r")
        self.shows(lor(P, to(Q, R)), "p | (q -> r)")
        self.shows(lor(P, lor(Q, R)), "p | (q | r)")
        self.shows(lor(P, land(Q, R)), "p | q & r")
        self.shows(land(P, to(Q, R)), "p & (q -> r)")
        self.shows(land(P, lor(Q, R)), "p & (q | r)")
        self.shows(land(P, land(Q, R)), "p & (q & r)")

    def test_prefixed_operands(self):
        for sign, join in (("->", to), ("|", lor), ("&", land)):
            self.shows(join(neg(P), box(Q)), f"~p {sign} []q")
            self.shows(join(box(P), neg(Q)), f"[]p {sign} ~q")
            self.shows(join(T, T), f"T {sign} T")
            self.shows(join(neg(to(P, Q)), R), f"~(p -> q) {sign} r")

    def test_equivalences_have_no_sign(self):
        self.shows(iff(P, Q), "(p -> q) & (q -> p)")

    def test_parse_leads_back(self):
        dice = Dice(4)
        formulas = small_formulas(2) + [mixed_formula(dice, 7) for _ in range(300)]
        for a in formulas:
            self.assertEqual(parse(show(a)), a)

    def test_no_pair_of_brackets_can_be_left_out(self):
        dice = Dice(5)
        for a in [mixed_formula(dice, 5) for _ in range(200)]:
            text = show(a)
            for k in [k for k, c in enumerate(text) if c == "("]:
                end = next(e for e in range(k, len(text)) if text[k:e + 1].count("(") == text[k:e + 1].count(")"))
                fewer = text[:k] + text[k + 1:end] + text[end + 1:]
                self.assertNotEqual(parse(fewer), a, text)

    def test_high_formulas(self):
        steps = (
            neg, box, lambda a: to(P, a), lambda a: to(a, P), lambda a: land(P, a), lambda a: land(a, P),
            lambda a: lor(P, a), lambda a: lor(a, P),
        )
        for step in steps:
            a = tower(step, 59)
            self.assertEqual(height(a), 60)
            self.assertEqual(parse(show(a)), a)
        for first in steps:
            for second in steps:
                a = tower(lambda b: second(first(b)), 29, neg(P))
                self.assertEqual(height(a), 60)
                self.assertEqual(parse(show(a)), a)
