"""Counted letters: rows led into grids, and the folded webs of the rows that come into a lot of points."""

import itertools
import math
import random
import unittest

from helpers import back, random_word, struck, words_up_to
from pressworlds.folds import is_normal_lot, least_rows, remainders, walked
from pressworlds.pointlots import PointLot, point_cosets, point_makes, point_rest
from pressworlds.points import Point, point_then, point_undone
from pressworlds.rowlots import RowLot, row_cosets, row_form, row_makes
from pressworlds.rows import Row, row_then, row_undone


def counted(row):
    """Return the point of a row: how often each letter stands there, less how often its opposite does."""
    return Point(tuple(row.word.count(letter) - row.word.count(letter.upper()) for letter in "abcd"[:row.letters]))


def web_into(lot):
    """Return the ties of the web whose places are the cosets, and the first words to these, from the start on."""
    width = len(lot.changes[0])
    ways = "aAbBcC"[:2 * width]
    numbers, words, goals = {(0,) * width: 0}, [""], {}
    for place in numbers_met(numbers):
        for way in ways:
            step = tuple((letter == way.lower()) * (1 if way.islower() else -1) for letter in ways[::2])
            goal = point_rest(lot, point_then(Point(place), Point(step))).numbers
            if goal not in numbers:
                numbers[goal] = len(numbers)
                words.append(words[numbers[place]] + way)
            goals[numbers[place], way] = numbers[goal]
    ties = sorted((place, way, goal) for (place, way), goal in goals.items() if way.islower())
    return tuple(ties), words


def numbers_met(numbers):
    """Go over the keys of a dict, those also that come while it is gone over."""
    done = 0
    while done < len(numbers):
        yield list(numbers)[done]
        done += 1


def lots_with(pivots):
    """Return all lots of points whose forms have these pivots."""
    spots = [(row, column) for column in range(len(pivots)) for row in range(column)]
    lots = []
    for above in itertools.product(*(range(pivots[column]) for _, column in spots)):
        lines = [[0] * row + [pivot] + [0] * (len(pivots) - row - 1) for row, pivot in enumerate(pivots)]
        for (row, column), number in zip(spots, above):
            lines[row][column] = number
        lots.append(PointLot(tuple(Point(tuple(line)) for line in lines)))
    return lots


class TestCounted(unittest.TestCase):
    def test_rows_then_and_undone_are_added_and_turned_about(self):
        rng = random.Random(1)
        for _ in range(200):
            letters = rng.randint(1, 3)
            one, other = (Row(letters, random_word(rng, letters, rng.randrange(20))) for _ in range(2))
            self.assertEqual(counted(row_then(one, other)), point_then(counted(one), counted(other)))
            self.assertEqual(counted(row_undone(one)), point_undone(counted(one)))

    def test_webs_of_rows_that_come_into_a_lot_of_points(self):
        """For few cosets the rows can be told, so that both ways of reckoning meet."""
        checked = 0
        for width, most in ((1, 12), (2, 4), (3, 2)):
            for pivots in itertools.product(range(1, most + 1), repeat=width):
                if math.prod(pivots) <= most:
                    for lot in lots_with(pivots):
                        checked += 1
                        self.check(lot, width, math.prod(pivots))
        self.assertEqual(checked, 12 + 1 + 3 + 4 + 7 + 1 + 7)

    def check(self, lot, width, many):
        ties, words = web_into(lot)
        self.assertEqual(len(words), many)
        loops = [struck(words[place] + letter + back(words[goal])) for place, letter, goal in ties]
        told = RowLot(tuple(Row(width, word) for word in loops if word))
        self.assertEqual(row_form(told), ties)
        self.assertEqual(row_cosets(told), many)
        self.assertTrue(is_normal_lot(told))
        self.assertEqual([row.word for row in remainders(told)], words)
        self.assertEqual(least_rows(told), told.changes)
        for word in words_up_to(width, 3):
            row = Row(width, word)
            self.assertEqual(row_makes(told, row), point_makes(lot, counted(row)))
            place = walked(told, row)
            self.assertEqual(point_rest(lot, counted(row)), point_rest(lot, counted(Row(width, words[place]))))


if __name__ == "__main__":
    unittest.main()
