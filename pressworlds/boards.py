"""Boards: changes that are led live by the presses of a lot."""

from pressworlds.checks import is_integer
from pressworlds.errors import InvalidNumber, NothingToUndo
from pressworlds.trials import Trial
from pressworlds.worlds import check_lot, often, then


class Board:
    """A change led by the told changes of a lot; its past are triples of index, times and the change behind these."""

    def __init__(self, lot):
        check_lot(lot)
        self._lot = lot
        self._still = often(lot.changes[0], 0)
        self.past = ()

    @property
    def lot(self):
        """The lot whose told changes are pressed."""
        return self._lot

    @property
    def now(self):
        """The change to which all presses that were not taken back have led."""
        return self.past[-1][2] if self.past else self._still

    @property
    def plan(self):
        """The tuple of the pairs of index and times that were pressed and not taken back."""
        return tuple([(index, times) for index, times, _ in self.past])

    def __len__(self):
        return len(self.past)

    def __bool__(self):
        # Without it a board on which nothing was pressed would not be true.
        return True

    def press(self, index, times):
        """Do the told change with this index, so many times, behind what there is."""
        if not is_integer(index) or index < 0 or index >= len(self._lot):
            raise InvalidNumber(index)
        if not is_integer(times) or times == 0:
            raise InvalidNumber(times)
        after = then(self.now, often(self._lot.changes[index], times))
        self.past = self.past + ((index, times, after),)

    def undo(self):
        """Take back the last press that has not been taken back."""
        if len(self.past) == 0:
            raise NothingToUndo()
        self.past = self.past[:-1]

    def trial(self):
        """Return what a with statement stands over; if its rows end with an exception, the board is as it was."""
        return Trial(self)

    def tried(self, action):
        """Return what a function returns that is called with the board within a trial."""
        with self.trial() as board:
            return action(board)
