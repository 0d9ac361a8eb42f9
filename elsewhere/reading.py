"""Derivations in Int as terms, and terms as derivations."""

from elsewhere.decision import decide_formula
from elsewhere.derivation import conclusion_of, is_derivation, pruned
from elsewhere.drafting import Drafting
from elsewhere.drafts import TermWriter
from elsewhere.errors import NoFit
from elsewhere.proving import Proving
from elsewhere.reduction import normal
from elsewhere.sequent import sequent
from elsewhere.typed import Typed


def derivation_of(context, term):
    """A derivation in Int of the type of a term from the items of a context."""
    return Proving(Typed(context, term)).derivation()


def term_of(context, steps):
    """A term that has in a context the type that a derivation in Int gives."""
    if not is_derivation("Int", steps):
        raise NoFit("the steps are no derivation in Int")
    left, right = conclusion_of(steps)
    if len(right) != 1 or sequent(context, [])[0] != left:
        raise NoFit("the last sequent does not belong to the context, or has not one formula on its right")
    drafting = Drafting()
    draft = drafting.draft_of(pruned(steps))
    return TermWriter(drafting.numbering, context).as_term(draft)


def term_for(a):
    """A normal term in the empty context that has a plain formula as its type."""
    return normal(term_of([], decide_formula("Int", a).derivation()))
