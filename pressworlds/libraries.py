"""Libraries: lots of any worlds under names, and wishes for them that hold after each change."""

from pressworlds.checks import is_integer
from pressworlds.errors import Broken, InUse, InvalidLog, InvalidName, InvalidNumber, NotPossible, NothingToUndo
from pressworlds.errors import UnknownName, WrongName, WrongValue
from pressworlds.trials import Trial
from pressworlds.wishes import check_wish, holds
from pressworlds.worlds import check_lot, read_lot

NAME_LETTERS = "abcdefghijklmnopqrstuvwxyz"
MOST_NAME = 8
SIZES = {"put": 3, "drop": 2, "wish": 3, "lift": 2}


def check_name(value):
    """Raise InvalidName for what is no name."""
    if not isinstance(value, str) or not 1 <= len(value) <= MOST_NAME:
        raise InvalidName(value)
    if not all([letter in NAME_LETTERS for letter in value]):
        raise InvalidName(value)


class Library:
    """Lots and wishes; its past are triples of a change, the lots by names and the wishes behind it."""

    def __init__(self):
        self.past = ()

    @property
    def shelf(self):
        """The tuple of the pairs of a name and its lot, the names ascending."""
        return self.past[-1][1] if self.past else ()

    @property
    def wishes(self):
        """The tuple of the pairs of a name and a wish for its lot."""
        return self.past[-1][2] if self.past else ()

    @property
    def names(self):
        """The tuple of the names, ascending."""
        return tuple([name for name, _ in self.shelf])

    @property
    def changes(self):
        """How many changes can be taken back."""
        return len(self.past)

    @property
    def log(self):
        """The tuple of the changes that have not been taken back."""
        return tuple([change for change, _, _ in self.past])

    def __len__(self):
        return len(self.shelf)

    def __bool__(self):
        # Without it a library without names would not be true.
        return True

    def keep(self, change, shelf, wishes):
        """Go over to these lots and wishes by a change."""
        self.past = self.past + ((change, shelf, wishes),)

    def without(self, name):
        """Return the list of the pairs of all other names and their lots."""
        return [pair for pair in self.shelf if pair[0] != name]

    def put(self, name, lot):
        """Put a lot under a name, also in the place of another one."""
        check_name(name)
        check_lot(lot)
        for at, (wished, wish) in enumerate(self.wishes):
            if wished == name and not holds(lot, wish):
                raise Broken(at)
        shelf = sorted(self.without(name) + [(name, lot)], key=lambda pair: pair[0])
        self.keep(("put", name, lot.text), tuple(shelf), self.wishes)

    def named(self, name):
        """Return the lot under a name."""
        if isinstance(name, str):
            for other, lot in self.shelf:
                if other == name:
                    return lot
        raise UnknownName(name)

    def drop(self, name):
        """Take a name away for which there is no wish."""
        self.named(name)
        for at, (wished, _) in enumerate(self.wishes):
            if wished == name:
                raise InUse(at)
        self.keep(("drop", name), tuple(self.without(name)), self.wishes)

    def wish(self, name, wish):
        """Take in one wish more for the lot under a name, which holds for it."""
        lot = self.named(name)
        check_wish(wish)
        if not holds(lot, wish):
            raise Broken(len(self.wishes))
        self.keep(("wish", name, wish), self.shelf, self.wishes + ((name, wish),))

    def lift(self, index):
        """Take a wish away."""
        if not is_integer(index) or index < 0 or index >= len(self.wishes):
            raise InvalidNumber(index)
        self.keep(("lift", index), self.shelf, self.wishes[:index] + self.wishes[index + 1:])

    def undo(self):
        """Take back the last change that has not been taken back."""
        if len(self.past) == 0:
            raise NothingToUndo()
        self.past = self.past[:-1]

    def trial(self):
        """Return what a with statement stands over; if its rows end with an exception, the library is as it was."""
        return Trial(self)

    def tried(self, action):
        """Return what a function returns that is called with the library within a trial."""
        with self.trial() as library:
            return action(library)


def played(log):
    """Return the library to which these changes lead, one behind another."""
    if not isinstance(log, tuple):
        raise InvalidLog(None)
    library = Library()
    for at, change in enumerate(log):
        if not is_change_told(change):
            raise InvalidLog(at)
        try:
            play(library, change)
        except (WrongValue, WrongName, NotPossible):
            raise InvalidLog(at) from None
    return library


def is_change_told(value):
    """Return whether a value is a tuple of a known word and as many further elements as belong to it."""
    if not isinstance(value, tuple) or not value or not isinstance(value[0], str):
        return False
    return SIZES.get(value[0]) == len(value)


def play(library, change):
    """Do a change that a log tells."""
    word = change[0]
    if word == "put":
        library.put(change[1], read_lot(change[2]))
    elif word == "drop":
        library.drop(change[1])
    elif word == "wish":
        library.wish(change[1], change[2])
    else:
        library.lift(change[1])
