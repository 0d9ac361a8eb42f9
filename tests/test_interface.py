"""The names of the interface: each exists, and is defined in the file under which it is listed."""

import doctest
import importlib
import inspect
import unittest

FUNCTIONS = {
    "formula": [
        "neg(a)", "verum()", "dia(a)", "iff(a, b)", "conjunction(formulas)", "disjunction(formulas)", "height(a)",
        "size(a)", "modal_depth(a)", "is_plain(a)", "subformulas(a)", "boxes(a)", "variables(a)",
        "substitute(a, values)", "replace_boxes(a, values)", "polarities(a)", "is_guarded(a, name)",
    ],
    "text": ["parse(text)", "show(a)"],
}

EXAMPLES = """
>>> from elsewhere.formula import neg
>>> neg(("var", "p"))
('implies', ('var', 'p'), ('falsum',))

>>> from elsewhere.formula import conjunction
>>> conjunction([("var", "p"), ("var", "q")])
('and', ('var', 'p'), ('var', 'q'))

>>> from elsewhere.formula import subformulas
>>> subformulas(("box", ("var", "p")))
[('box', ('var', 'p')), ('var', 'p')]

>>> from elsewhere.text import parse
>>> parse("p -> []q")
('implies', ('var', 'p'), ('box', ('var', 'q')))

>>> from elsewhere.text import show
>>> from elsewhere.text import parse
>>> show(parse("<>p <-> (q | r)"))
'(~[]~p -> q | r) & (q | r -> ~[]~p)'

>>> from elsewhere.text import parse
>>> parse("p q")
Traceback (most recent call last):
elsewhere.errors.InvalidText: a sign is missing between two formulas
"""


class Interface(unittest.TestCase):
    def test_functions_are_defined_where_they_are_listed(self):
        for file, forms in FUNCTIONS.items():
            module = importlib.import_module("elsewhere." + file)
            for form in forms:
                name = form[:form.index("(")]
                found = getattr(module, name)
                self.assertTrue(inspect.isfunction(found), form)
                self.assertEqual(found.__module__, module.__name__, form)
                self.assertEqual(name + str(inspect.signature(found)), form)

    def test_examples(self):
        test = doctest.DocTestParser().get_doctest(EXAMPLES, {}, "examples", None, None)
        runner = doctest.DocTestRunner(verbose=False)
        told = []
        runner.run(test, out=told.append)
        self.assertEqual(runner.summarize(verbose=False).failed, 0, "".join(told))
