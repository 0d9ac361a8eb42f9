"""The errors of the package, one class for each kind of failure."""


class ElsewhereError(ValueError):
    """The base class of all errors of the package."""


class InvalidText(ElsewhereError):
    """A text is not one of the grammar, or goes beyond its bounds."""


class InvalidModel(ElsewhereError):
    """A frame is none, or a world does not exist."""


class NotPlain(ElsewhereError):
    """A box occurs where only plain formulas are taken."""


class UnknownLogic(ElsewhereError):
    """A name is none of the fifteen."""


class NotTold(ElsewhereError):
    """No formula tells two worlds apart."""


class NoFit(ElsewhereError):
    """A rule or a derivation does not fit."""


class NotValid(ElsewhereError):
    """Something is not valid, so it has no derivation."""


class IsValid(ElsewhereError):
    """Something is valid, so no model refutes it."""


class WrongFrame(ElsewhereError):
    """A frame is not one of the logic that is needed."""


class NoInterpolants(ElsewhereError):
    """A logic is not one of those with interpolants."""


class HasVariables(ElsewhereError):
    """A formula has variables where it may have none."""


class NotGuarded(ElsewhereError):
    """A variable stands outside of every box."""


class TooMany(ElsewhereError):
    """A formula has too many outermost boxes with a variable."""


class InvalidLine(ElsewhereError):
    """A line of a text is wrong; `line` is its number, counted from 1."""

    def __init__(self, line):
        ElsewhereError.__init__(self, f"line {line}")
        self.line = line


class IllTyped(ElsewhereError):
    """A term does not fit its context."""


class IsNormal(ElsewhereError):
    """A term has no redex."""


class NoAxiom(ElsewhereError):
    """A formula is no axiom of a theory."""


class Inconsistent(ElsewhereError):
    """A theory has no model."""


class OtherLogic(ElsewhereError):
    """Two theories have different logics."""
