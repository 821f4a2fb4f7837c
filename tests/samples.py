"""Random changes, lots and leads of any world, and plain reckoning with them, for several tests."""

from fractions import Fraction

from helpers import random_word
from pressworlds.leads import Lead
from pressworlds.moves import Move
from pressworlds.points import Point
from pressworlds.rounds import Round
from pressworlds.rows import Row
from pressworlds.slides import Slide
from pressworlds.views import View
from pressworlds.worlds import lot_of, often, read_change, then, undone

WORLDS = ["rows 1", "rows 2", "rows 3", "rows 4", "grid 1", "grid 2", "grid 3", "ruler", "screen 2", "screen 3",
          "screen 4", "screen 5", "lamps 2", "lamps 3", "lamps 5", "lamps 7", "areas"]
# One world of each kind, for what takes long.
SIX = ["rows 2", "grid 2", "ruler", "screen 2", "lamps 3", "areas"]
GREAT = 10 ** 30
MANY = 10 ** 39 + 3

STILL = {world: text for world, text in zip(WORLDS, [
    "rows 1 -", "rows 2 -", "rows 3 -", "rows 4 -", "grid 1 0", "grid 2 0 0", "grid 3 0 0 0", "ruler + 0",
    "screen 2 zoom 0 shift 0", "screen 3 zoom 0 shift 0", "screen 4 zoom 0 shift 0", "screen 5 zoom 0 shift 0",
    "lamps 2 end 0 dark", "lamps 3 end 0 dark", "lamps 5 end 0 dark", "lamps 7 end 0 dark", "areas 0 0 0"])}

# Changes that are just not small, each with the world it is of.
NOT_SMALL = {
    "rows 2": [Row(2, "ab" * 6 + "a"), Row(2, "a" * 400)],
    "rows 4": [Row(4, "abcd" * 3 + "a")],
    "grid 1": [Point((GREAT + 1,)), Point((-GREAT - 1,))],
    "grid 3": [Point((0, 0, GREAT + 1)), Point((0, -MANY, 0))],
    "ruler": [Slide(1, GREAT + 1), Slide(-1, -GREAT - 1)],
    "screen 2": [View(2, 5, (0, 1)), View(2, -5, (0, 1)), View(2, 0, (101, 1)), View(2, 0, (1, 32)),
                 View(2, 0, (-1601, 16))],
    "screen 5": [View(5, 0, (1, 3125)), View(5, 0, (62501, 625))],
    "lamps 2": [Round(2, ((25, 1),), 0), Round(2, ((-25, 1),), 0), Round(2, (), 9), Round(2, (), -9)],
    "lamps 7": [Round(7, ((0, 1), (25, 6)), 8)],
    "areas": [Move(GREAT + 1, 0, 0), Move(0, -GREAT - 1, 0), Move(0, 0, GREAT + 1)],
}


def still(world):
    """Return the still change of a world."""
    return read_change(STILL[world])


def random_change(rng, world, size):
    """Return a random small change, its numbers about as great as the size; rows have at most 6 letters."""
    kind, _, number = world.partition(" ")
    if kind == "rows":
        return Row(int(number), random_word(rng, int(number), rng.randint(0, min(6, size))))
    if kind == "grid":
        return Point(tuple(rng.randint(-size, size) for _ in range(int(number))))
    if kind == "ruler":
        return Slide(rng.choice([1, -1]), rng.randint(-size, size))
    if kind == "screen":
        factor = int(number)
        shift = Fraction(rng.randint(-size, size), factor ** rng.choice([0, 0, 0, 1, 2]))
        return View(factor, rng.choice([-2, -1, 0, 0, 0, 1, 1, 2]), (shift.numerator, shift.denominator))
    if kind == "lamps":
        places = sorted(rng.sample(range(-min(24, size), min(24, size) + 1), rng.randint(0, min(4, 2 * size))))
        lamps = tuple((place, rng.randrange(1, int(number))) for place in places)
        return Round(int(number), lamps, rng.choice([0, 0, 0, 1, -1, 2, 3, -4]))
    return Move(*(rng.randint(-size, size) for _ in range(3)))


def random_lot(rng, world, size):
    """Return a random lot."""
    return lot_of(tuple(random_change(rng, world, size) for _ in range(rng.randint(1, 5))))


def random_lead(rng, world, size):
    """Return a random lead."""
    return Lead(tuple(random_change(rng, world, size) for _ in range(rng.randint(1, 4))))


def done(world, changes):
    """Return what changes do, each then the next."""
    total = still(world)
    for change in changes:
        total = then(total, change)
    return total


def letter_changes(lead, word):
    """Return the list of the changes of the letters of a word."""
    return [lead.changes["abcd".index(way.lower())] if way.islower() else undone(lead.changes["ABCD".index(way)])
            for way in word]


def pressed(lot, row):
    """Return what a row of presses does."""
    return done(world_name(lot), [often(lot.changes[index], sign) for index, sign in row])


def world_name(lot):
    """Return the world of a lot, by its text."""
    words = lot.text.split("\n")[0].split(" ")
    return words[0] if words[0] in ("ruler", "areas") else " ".join(words[:2])
