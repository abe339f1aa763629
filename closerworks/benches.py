"""Benches: closers that are changed, with changes that can be taken back, and trials."""

from closerworks.closers import Closer, check_closer
from closerworks.comparing import kept, shut
from closerworks.errors import NothingToUndo
from closerworks.lots import check_lot, meets_of
from closerworks.rules import check_rule, keeps


class Past:
    """What was there when the rows of a trial began, and what the trial held then."""

    def __init__(self, stands, outer):
        self._stands = stands
        self._outer = outer


class Trial:
    """A trial of a bench or a desk, for a `with` statement: it keeps nothing if the rows end with an exception."""

    def __init__(self, tool):
        self._tool = tool
        # The rows of one and the same trial can stand within one another, so each beginning holds the one around it.
        self._past = None

    def __enter__(self):
        self._past = Past(self._tool._stands, self._past)
        return self._tool

    def __exit__(self, kind, value, trace):
        tool = self._tool
        if kind is not None:
            tool._stands = self._past._stands
        self._past = self._past._outer


class Bench:
    """A closer that is changed."""

    def __init__(self, closer):
        check_closer(closer)
        # All closers from the first one to the one now; a tuple, so that a trial can keep it as it was.
        self._stands = (closer,)

    @property
    def now(self):
        """Tell the closer."""
        return self._stands[-1]

    @property
    def changes(self):
        """Tell how many changes can be taken back."""
        return len(self._stands) - 1

    def add(self, rule):
        """Take out the closed lots that do not keep a rule."""
        closer = self.now
        check_rule(closer.things, rule)
        self._become(Closer(closer.things, tuple([lot for lot in closer.closed if keeps(lot, rule)])))

    def close(self, lot):
        """Make a lot closed, and with it what it has in common with closed lots."""
        closer = self.now
        check_lot(closer.things, lot)
        self._become(Closer(closer.things, meets_of(closer.things, closer.closed + (lot,))))

    def keep(self, lot):
        """Keep the things of a lot alone."""
        self._become(kept(self.now, lot))

    def shut(self, lot):
        """Shut a lot."""
        self._become(shut(self.now, lot))

    def _become(self, closer):
        """Let another closer take the place of the one now."""
        self._stands = self._stands + (closer,)

    def undo(self):
        """Take back the last change that has not been taken back."""
        if self.changes == 0:
            raise NothingToUndo()
        self._stands = self._stands[:-1]

    def trial(self):
        """Give a trial for a `with` statement."""
        return Trial(self)

    def tried(self, action):
        """Call a function with the bench within a trial, and return what it returns."""
        with self.trial():
            return action(self)
