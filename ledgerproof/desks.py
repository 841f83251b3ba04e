"""Desks: models that change by scripts, with undo and redo."""

from ledgerproof.errors import NothingToRedo, NothingToUndo
from ledgerproof.models import changed
from ledgerproof.printer import show_model
from ledgerproof.reader import read_model, read_script
from ledgerproof.verdicts import statuses_of


class Desk:
    """A model, with the models before the changes that can be undone and behind those that can be redone."""

    MOST_CHANGES = 10

    def __init__(self, model):
        self._model = model
        # The last of the earlier models and the first of the later ones are those next to the model itself.
        self._earlier = ()
        self._later = ()

    @classmethod
    def opened(cls, text):
        """A new desk with the model that the text is read as."""
        return cls(read_model(text))

    @property
    def model(self):
        """The model as it is now."""
        return self._model

    @property
    def undoable(self):
        """How many changes can be undone."""
        return len(self._earlier)

    @property
    def redoable(self):
        """How many changes can be redone."""
        return len(self._later)

    def apply(self, text):
        """Applies the script that the text is read as, and returns the number of its statements."""
        script = read_script(self._model, text)
        earlier = (*self._earlier, self._model)
        self._earlier = earlier[-self.MOST_CHANGES:]
        self._later = ()
        self._model = changed(self._model, script)
        return len(script)

    def undo(self, *, steps=1):
        """Undoes as many changes, and returns how many can then be undone and redone."""
        if steps > len(self._earlier):
            raise NothingToUndo()
        for _ in range(steps):
            self._later = (self._model, *self._later)
            self._model = self._earlier[-1]
            self._earlier = self._earlier[:-1]
        return (len(self._earlier), len(self._later))

    def redo(self, *, steps=1):
        """Redoes as many changes, and returns how many can then be undone and redone."""
        if steps > len(self._later):
            raise NothingToRedo()
        for _ in range(steps):
            self._earlier = (*self._earlier, self._model)
            self._model = self._later[0]
            self._later = self._later[1:]
        return (len(self._earlier), len(self._later))

    def tried(self, first, second):
        """The statuses behind both scripts, behind the first one alone, and of the model as it is."""
        between = changed(self._model, read_script(self._model, first))
        behind = changed(between, read_script(between, second))
        return (statuses_of(behind), statuses_of(between), statuses_of(self._model))

    def statuses(self):
        """The statuses of the model."""
        return statuses_of(self._model)

    def source(self):
        """The printed form of the model."""
        return show_model(self._model)

    def clone(self):
        """A new desk with the same model and the same changes to undo and to redo."""
        other = Desk(self._model)
        other._earlier = self._earlier
        other._later = self._later
        return other
