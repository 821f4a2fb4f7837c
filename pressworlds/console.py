"""Consoles: boards by lines."""

from pressworlds.boards import Board
from pressworlds.errors import InvalidLine, InvalidNumber, NothingToUndo, OtherWorld, TooFar, TooGreat, TooMany
from pressworlds.fewest import presses
from pressworlds.readings import change_in
from pressworlds.texts import number_in, number_text
from pressworlds.worlds import cosets, makes


class Console:
    """A board that is asked, and pressed, by lines."""

    def __init__(self, lot):
        self._board = Board(lot)

    @property
    def board(self):
        """The board."""
        return self._board

    def say(self, line):
        """Return the answer to a line; where an error comes of what it asks, the name of its class."""
        try:
            return answer_to(self._board, line)
        except InvalidNumber:
            return "InvalidNumber"
        except NothingToUndo:
            return "NothingToUndo"
        except OtherWorld:
            return "OtherWorld"
        except TooFar:
            return "TooFar"
        except TooGreat:
            return "TooGreat"
        except TooMany:
            return "TooMany"


def answer_to(board, line):
    """Return the answer of a board to a line."""
    if not isinstance(line, str):
        raise InvalidLine(line)
    if line == "undo":
        board.undo()
        return "ok"
    if line == "now":
        return str(board.now)
    if line == "cosets":
        many = cosets(board.lot)
        return "endless" if many is None else number_text(many)
    word, space, rest = line.partition(" ")
    if word == "makes" and space:
        return made_answer(board.lot, rest)
    first, gap, last = rest.partition(" ")
    numbers = [told_number(first), told_number(last)]
    if word == "press" and None not in numbers:
        board.press(numbers[0], numbers[1])
        return "ok"
    if word == "needs" and gap and numbers[0] is not None:
        return needs_answer(board.lot, last, numbers[0])
    raise InvalidLine(line)


def told_number(text):
    """Return the integer with this text; None if there is none."""
    number = number_in(text)
    return number if number is not None and number_text(number) == text else None


def made_answer(lot, text):
    """Return the answer whether the change with a text is made."""
    change = change_in(text)
    if change is None:
        return "no change"
    return "yes" if makes(lot, change) else "no"


def needs_answer(lot, text, most):
    """Return the answer how many presses the change with a text needs."""
    change = change_in(text)
    if change is None:
        return "no change"
    many = presses(lot, change, most)
    return "more" if many is None else str(many)
