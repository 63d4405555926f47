"""A desk leads a sieve by steps, which can be undone and done again."""

from restlots.checks import is_bar
from restlots.errors import BadBars
from restlots.lots import narrowed, without
from restlots.sides import both
from restlots.sieves import Sieve


class Desk:
    """A sieve, at first without bars, that is changed by steps."""

    def __init__(self):
        self._sieve = Sieve(())
        # The sieves ahead of each step that stands, and behind each one that was taken back, the last ones last.
        self._earlier = []
        self._later = []

    def __len__(self):
        return len(self._earlier)

    @property
    def sieve(self):
        """The sieve as it stands."""
        return self._sieve

    def put(self, bar):
        """Put a bar behind the others; return how many classes there are."""
        if not is_bar(bar):
            raise BadBars(None)
        self._step_to(both(self._sieve, Sieve((bar,))))
        return len(self._sieve.classes)

    def take(self, index):
        """Take a bar out, and return it."""
        rest = without(self._sieve, index)
        bar = self._sieve.bars[index]
        self._step_to(rest)
        return bar

    def narrow(self, index, lot):
        """Leave in the lot of a bar just those of its rests that are in lot."""
        self._step_to(narrowed(self._sieve, index, lot))

    def undo(self):
        """Take the last step that stands back; return whether there was one."""
        if self._earlier == []:
            return False
        self._later.append(self._sieve)
        self._sieve = self._earlier.pop()
        return True

    def redo(self):
        """Do the last step that was taken back again; return whether there was one."""
        if self._later == []:
            return False
        self._earlier.append(self._sieve)
        self._sieve = self._later.pop()
        return True

    def copy(self):
        """Return an independent desk that stands as this one."""
        other = Desk()
        other._sieve = self._sieve
        other._earlier = list(self._earlier)
        other._later = list(self._later)
        return other

    def _step_to(self, sieve):
        """Let a sieve stand by a new step."""
        self._earlier.append(self._sieve)
        self._later = []
        self._sieve = sieve
