"""Rests: for each change one that stands for all that are made by a lot, and then it.

So two changes have the same rest exactly if the first one, then the second one undone, is made. What
changes do is reckoned with as `loose` tells, so that nothing is too great.
"""

from pressworlds.grids import left_by
from pressworlds.movelots import flat_move, move_in
from pressworlds.moves import Move, move_often, move_then
from pressworlds.pictures import picture_of, trip_often, trip_then
from pressworlds.pointlots import point_rest
from pressworlds.ratios import ZERO, ratio_less, ratio_over, ratio_times
from pressworlds.roundlots import left_without_ends
from pressworlds.slides import TURNED, Slide, slide_then
from pressworlds.spans import taken_by_heads
from pressworlds.viewlots import whole_rest
from pressworlds.views import pair_often, pair_then
from pressworlds.webs import first_words, steps_of
from pressworlds.worlds import lot_kind


def rest_of(lot, done):
    """Return the rest, for a lot, of what a change of its world does."""
    kind = lot_kind(lot)
    if kind == "rows":
        return word_rest(lot.form, done)
    if kind == "grid":
        return point_rest(lot, done)
    if kind == "ruler":
        return slide_rest(lot.form, done)
    if kind == "screen":
        return pair_rest(lot.factor, lot.form, done)
    if kind == "lamps":
        return trip_rest(lot.levels, lot.form, done)
    return move_rest(lot.form, done)


def word_rest(form, word):
    """Return the word whose beginning is changed for the first word to the last place to which it goes in the web."""
    steps = steps_of(form)
    place = 0
    gone = 0
    while gone < len(word) and (place, word[gone]) in steps:
        place = steps[place, word[gone]]
        gone += 1
    return first_words(steps, 0)[place] + word[gone:]


def slide_rest(form, slide):
    """Return the slide without its turn, if there is one to be put ahead, and with the least shift from 0 on."""
    step, turn = form
    if slide.side == TURNED and turn:
        slide = slide_then(Slide(TURNED, turn[0]), slide)
    return Slide(slide.side, left_by(slide.shift, step))


def pair_rest(factor, form, pair):
    """Return the pair with the least zoom from 0 on, and the least shift, for a step above 0 the least whole one."""
    step, gauge, head = form
    if step == 0:
        return pair[0], ratio_rest(pair[1], gauge)
    zoom, shift = pair_then(factor, pair_often(factor, (step, head[0]), -(pair[0] // step)), pair)
    return zoom, (whole_rest(shift, gauge[0]), 1) if gauge != ZERO else shift


def ratio_rest(number, gauge):
    """Return what is left of a fraction when multiples of another one are taken away; all of it for the gauge 0."""
    if gauge == ZERO:
        return number
    top, bottom = ratio_over(number, gauge)
    return ratio_less(number, ratio_times((top // bottom, 1), gauge))


def trip_rest(levels, form, trip):
    """Return the trip with the least end from 0 on, and what is left of its picture then."""
    divisor, pictures, way = form
    heads = [picture_of(lamps) for lamps in pictures]
    if divisor == 0:
        return left_without_ends(levels, trip[0], heads), trip[1]
    back = trip_often(levels, (picture_of(way), divisor), -(trip[1] // divisor))
    picture, end = trip_then(levels, back, trip)
    return taken_by_heads(levels, picture, divisor, heads), end


def move_rest(form, move):
    """Return the move with the least steps east from 0 on, then the least steps north, then the least area."""
    east, north, z = form
    flat = flat_move(move, move_in(east))
    if north:
        flat = move_then(move_often(move_in(north), -(flat.north // north[1])), flat)
    return Move(flat.east, flat.north, left_by(flat.area, z))
