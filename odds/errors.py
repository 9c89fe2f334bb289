"""The errors of the package."""


class OddsError(ValueError):
    """The base class of all errors of the package."""


class InvalidNumeral(OddsError):
    """A text is not the decimal form of an integer."""


class ZeroDivisor(OddsError):
    """A number is divided by zero."""


class InvalidRatio(OddsError):
    """A text is not the written form of a ratio."""


class EmptyTable(OddsError):
    """An empty table has no total to divide by."""


class NoSuchPlace(OddsError):
    """The keys of a table, or the results, have no item at a place."""


class InvalidToken(OddsError):
    """No token can be taken from a text at the index `at`."""

    def __init__(self, at):
        super().__init__(f"no token can be taken at the index {at}")
        self.at = at


class InvalidSyntax(OddsError):
    """The tokens do not follow the grammar behind the first `at` ones."""

    def __init__(self, at):
        super().__init__(f"the tokens go wrong behind the first {at}")
        self.at = at


class TooDeep(OddsError):
    """Brackets or expressions are nested too deep."""


class CheckError(OddsError):
    """The base class of the errors of unsound programs."""


class NameClash(CheckError):
    """Two things that must have different names have the same one."""


class BadSize(CheckError):
    """An array, a count, a bound or the fuel has a size that is not allowed."""


class UnknownName(CheckError):
    """A name is not visible where it is used, or means something else."""


class WrongCount(CheckError):
    """A call has more or fewer arguments than its procedure has parameters."""


class KindMismatch(CheckError):
    """A value has not the kind that its place asks for."""


class Fault(OddsError):
    """An evaluation or a draw faults."""


class TooLarge(OddsError):
    """A program is too large to be unrolled."""


class NotANode(OddsError):
    """A constant diagram has no parts."""


class InvalidDiagram(OddsError):
    """A text is not the written form of a diagram."""


class NoValue(OddsError):
    """A split has no value under an assignment."""


class NoEvidence(OddsError):
    """Something is asked under a condition that has no mass."""


class NoSuchCoin(OddsError):
    """There is no coin of a level."""


class InvalidReport(OddsError):
    """A text is not the report of an answer."""
