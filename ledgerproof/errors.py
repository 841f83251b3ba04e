"""The errors that the program raises, one class for each kind of failure."""


class ProofError(ValueError):
    """The base class of all errors of the program."""


class ReadError(ProofError):
    """A text is refused at the token with this place."""

    def __init__(self, place):
        self.place = place


class Mistakes(ProofError):
    """A text is accepted by the grammar, but has these diagnostics."""

    def __init__(self, diagnostics):
        self.diagnostics = diagnostics


class BadValue(ProofError):
    """The value of a template with this number is no name and no number."""

    def __init__(self, number):
        self.number = number


class NeedsJournal(ProofError):
    """Only a journal answers the question."""


class NeedsModel(ProofError):
    """Only a model answers the question."""


class BadParticipant(ProofError):
    """The new participant with this number has a problem."""

    def __init__(self, number):
        self.number = number


class BadTransaction(ProofError):
    """The new transaction with this number has a problem, for this reason."""

    def __init__(self, number, reason):
        self.number = number
        self.reason = reason


class TooMany(ProofError):
    """A journal would have too many participants or transactions."""


class UnknownClaim(ProofError):
    """The model has no claim with this name."""

    def __init__(self, name):
        self.name = name


class NotASum(ProofError):
    """A constraint or a conclusion has not the form that is asked for."""


class DoesNotHold(ProofError):
    """The claim does not hold."""


class NotRefuted(ProofError):
    """The claim is not refuted."""


class NothingToUndo(ProofError):
    """Fewer changes can be undone."""


class NothingToRedo(ProofError):
    """Fewer changes can be redone."""
