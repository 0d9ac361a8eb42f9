"""The names of the interface: each exists, and is defined in the file under which it is listed."""

import doctest
import importlib
import inspect
import unittest

FUNCTIONS = {
    "formula": [
        "neg(a)", "verum()", "dia(a)", "iff(a, b)", "conjunction(formulas)", "disjunction(formulas)", "height(a)",
        "size(a)", "modal_depth(a)", "is_plain(a)", "subformulas(a)", "boxes(a)", "variables(a)",
        "substitute(a, values)", "replace_boxes(a, values)", "polarities(a)", "is_guarded(a, name)",
    ],
    "text": ["parse(text)", "show(a)"],
    "frame": ["is_frame(frame)", "closed(frame, reflexive, transitive)"],
    "model": ["truth(model, a)", "forcing(model, a)", "generated(model, v)", "disjoint(first, second)"],
    "logics": ["is_frame_of(logic, frame)", "is_model_of(logic, model)", "holds(logic, model, a)"],
    "bisimulation": [
        "greatest_bisimulation(first, second)", "smallest(model)", "class_of(model)",
        "round_of(first, v, second, w)", "telling(first, v, second, w)",
    ],
    "sequent": ["sequent(left, right)", "is_sequent(value)"],
    "rules": ["premises_of(logic, rule, conclusion, main)"],
    "derivation": [
        "is_derivation(logic, steps)", "derives(logic, steps, wanted)", "first_wrong(logic, steps)",
        "conclusion_of(steps)", "pruned(steps)", "joined(first, second, main)", "count_rule(steps, rule)",
        "is_analytic(steps)",
    ],
    "lines": ["write_derivation(steps)", "read_derivation(text)"],
    "decision": [
        "decide(logic, goal)", "decide_formula(logic, a)", "valid_in(a)", "equivalent(logic, a, b)",
        "follows(logic, formulas, a)",
    ],
    "translations": [
        "box_translation(a)", "double_negation(a)", "strong_boxes(a)", "at_reflexive(a)", "at_blind(a)",
        "skeleton(model)", "blind_copy(model)", "seeing_copy(model)",
    ],
    "interpolation": ["interpolant(logic, a, b)", "simplified(a)"],
    "provability": [
        "true_at_rank(a, rank)", "rank_list(a)", "normal_form(a)", "box_power(n)", "of_ranks(answers)",
        "fixed_point(a, name)",
    ],
    "papers": [
        "write_model(model)", "read_model(text)", "write_paper(logic, goal)", "paper_holds(text)", "paper_answer(text)",
        "answers(text)",
    ],
    "terms": ["type_of(context, term)", "weight(term)", "lifted(term, by, above)", "put(term, value)"],
    "reduction": ["redexes(term)", "step(term)", "normal(term)"],
    "reading": ["derivation_of(context, term)", "term_of(context, steps)", "term_for(a)"],
    "console": ["run_console(text)"],
}

CLASSES = {
    ("model", "Model"): ["__init__(self, frame, values)", "frame(self)", "true_worlds(self)", "seen(self, v)"],
    ("decision", "Decision"): ["is_valid(self)", "derivation(self)", "model(self)", "world(self)"],
    ("theory", "Theory"): [
        "__init__(self, logic)", "assume(self, a)", "drop(self, a)", "axioms(self)", "ask(self, a)",
        "is_consistent(self)", "model(self)", "redundant(self)", "core(self, a)", "independent(self)",
        "compare(self, other)",
    ],
}

EXAMPLES = """
>>> from elsewhere.formula import neg
>>> neg(("var", "p"))
('implies', ('var', 'p'), ('falsum',))

>>> from elsewhere.formula import conjunction
>>> conjunction([("var", "p"), ("var", "q")])
('and', ('var', 'p'), ('var', 'q'))

>>> from elsewhere.formula import subformulas
>>> subformulas(("box", ("var", "p")))
[('box', ('var', 'p')), ('var', 'p')]

>>> from elsewhere.text import parse
>>> parse("p -> []q")
('implies', ('var', 'p'), ('box', ('var', 'q')))

>>> from elsewhere.text import show
>>> from elsewhere.text import parse
>>> show(parse("<>p <-> (q | r)"))
'(~[]~p -> q | r) & (q | r -> ~[]~p)'

>>> from elsewhere.text import parse
>>> parse("p q")
Traceback (most recent call last):
elsewhere.errors.InvalidText: a sign is missing between two formulas

>>> from elsewhere.model import Model
>>> from elsewhere.model import truth
>>> truth(Model((2, ((0, 1),)), {"p": [1]}), ("box", ("var", "p")))
[0, 1]

>>> from elsewhere.logics import is_frame_of
>>> is_frame_of("S4", (2, ((0, 0), (0, 1), (1, 1))))
True

>>> from elsewhere.frame import closed
>>> closed((3, ((0, 1), (1, 2))), False, True)
(3, ((0, 1), (0, 2), (1, 2)))

>>> from elsewhere.bisimulation import smallest
>>> from elsewhere.model import Model
>>> smallest(Model((3, ((0, 1), (0, 2))), {})).frame()
(2, ((0, 1),))

>>> from elsewhere.bisimulation import round_of
>>> from elsewhere.model import Model
>>> round_of(Model((1, ()), {}), 0, Model((1, ((0, 0),)), {}), 0)
1

>>> from elsewhere.rules import premises_of
>>> from elsewhere.sequent import sequent
>>> premises_of("K", "modal", sequent([("box", ("var", "p"))], [("box", ("var", "q"))]), ("box", ("var", "q")))
[((('var', 'p'),), (('var', 'q'),))]

>>> from elsewhere.derivation import is_derivation
>>> from elsewhere.sequent import sequent
>>> is_derivation("K", [("axiom", sequent([("var", "p")], [("var", "p")]), ("var", "p"), ())])
True

>>> from elsewhere.lines import write_derivation
>>> from elsewhere.sequent import sequent
>>> write_derivation([("axiom", sequent([("var", "p")], [("var", "p")]), ("var", "p"), ())])
'axiom : p => p : p : \\n'

>>> from elsewhere.decision import valid_in
>>> from elsewhere.text import parse
>>> valid_in(parse("[]p -> p"))
['T', 'S4', 'S5', 'Grz']

>>> from elsewhere.decision import valid_in
>>> from elsewhere.text import parse
>>> valid_in(parse("~p | ~~p"))
['K', 'D', 'T', 'K4', 'D4', 'S4', 'S5', 'GL', 'Grz', 'KC', 'LC', 'HT', 'Cl']

>>> from elsewhere.decision import decide_formula
>>> from elsewhere.text import parse
>>> decide_formula("Int", parse("p | ~p")).is_valid()
False

>>> from elsewhere.text import parse
>>> from elsewhere.text import show
>>> from elsewhere.translations import box_translation
>>> show(box_translation(parse("p -> q")))
'[]([]p -> []q)'

>>> from elsewhere.text import parse
>>> from elsewhere.text import show
>>> from elsewhere.translations import double_negation
>>> show(double_negation(parse("p | q")))
'~(~~~p & ~~~q)'

>>> from elsewhere.interpolation import simplified
>>> from elsewhere.text import parse
>>> simplified(parse("(p & T) | F"))
('var', 'p')

>>> from elsewhere.provability import rank_list
>>> from elsewhere.text import parse
>>> rank_list(parse("[]F -> [][]F & F"))
[False, True, True]

>>> from elsewhere.provability import true_at_rank
>>> from elsewhere.text import parse
>>> true_at_rank(parse("~[]F"), 0)
False

>>> from elsewhere.model import Model
>>> from elsewhere.papers import write_model
>>> write_model(Model((2, ((0, 1),)), {"p": [1]}))
'worlds 2\\nsees 0 1\\ntrue p 1\\n'

>>> from elsewhere.papers import paper_holds
>>> paper_holds("logic K\\nleft p\\nright p\\nderivation\\naxiom : p => p : p : \\n")
True

>>> from elsewhere.terms import type_of
>>> type_of([], ("fun", ("var", "p"), ("at", 0)))
('implies', ('var', 'p'), ('var', 'p'))

>>> from elsewhere.reduction import normal
>>> normal(("first", ("pair", ("at", 0), ("at", 1))))
('at', 0)

>>> from elsewhere.reading import term_for
>>> from elsewhere.text import parse
>>> term_for(parse("p -> p"))
('fun', ('var', 'p'), ('at', 0))

>>> from elsewhere.console import run_console
>>> run_console("logic K\\nassume p\\nassume p -> q\\nask q\\nask r\\n")
'added\\nadded\\nyes 2\\nno\\n'

>>> from elsewhere.text import parse
>>> from elsewhere.theory import Theory
>>> t = Theory("Int")
>>> t.assume(parse("p"))
True
"""


class Interface(unittest.TestCase):
    def test_functions_are_defined_where_they_are_listed(self):
        for file, forms in FUNCTIONS.items():
            module = importlib.import_module("elsewhere." + file)
            for form in forms:
                name = form[:form.index("(")]
                found = getattr(module, name)
                self.assertTrue(inspect.isfunction(found), form)
                self.assertEqual(found.__module__, module.__name__, form)
                self.assertEqual(name + str(inspect.signature(found)), form)

    def test_methods_are_defined_in_their_classes(self):
        for (file, name), forms in CLASSES.items():
            module = importlib.import_module("elsewhere." + file)
            found = getattr(module, name)
            self.assertTrue(inspect.isclass(found), name)
            self.assertEqual(found.__module__, module.__name__, name)
            for form in forms:
                method = form[:form.index("(")]
                self.assertEqual(method + str(inspect.signature(vars(found)[method])), form)

    def test_tuples_of_names(self):
        logics = importlib.import_module("elsewhere.logics")
        self.assertEqual(logics.MODAL, ("K", "D", "T", "K4", "D4", "S4", "S5", "GL", "Grz"))
        self.assertEqual(logics.INTERMEDIATE, ("Int", "KC", "LC", "BD2", "HT", "Cl"))

    def test_examples(self):
        test = doctest.DocTestParser().get_doctest(EXAMPLES, {}, "examples", None, None)
        runner = doctest.DocTestRunner(verbose=False)
        told = []
        runner.run(test, out=told.append)
        self.assertEqual(runner.summarize(verbose=False).failed, 0, "".join(told))
