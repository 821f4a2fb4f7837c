"""What the folded web of a lot of rows tells besides: its rank, least rows, remainders, and where it can be moved."""

from pressworlds.rowlots import check_row_beside, check_row_lot, check_row_lots, row_cosets
from pressworlds.rows import Row
from pressworlds.webs import first_words, numbered_ties, place_count, steps_of, trimmed, walked_to
from pressworlds.words import word_then, word_undone


def row_rank(lot):
    """Return the number of least rows."""
    check_row_lot(lot)
    return len(lot.form) - place_count(lot.form) + 1


def least_rows(lot):
    """Return the least rows, one for each tie that is not in the tree of the first words."""
    check_row_lot(lot)
    words = first_words(steps_of(lot.form), 0)
    loops = [loop_by(words, tie) for tie in lot.form]
    return tuple([Row(lot.letters, loop) for loop in loops if loop])


def loop_by(words, tie):
    """Return the word to a tie, along it and back from there; for a tie of the tree it is empty."""
    place, letter, goal = tie
    return word_then(word_then(words[place], letter), word_undone(words[goal]))


def walked(lot, change):
    """Return the place to which a row goes from the start; None if it does not go."""
    check_row_beside(lot, change)
    return walked_to(steps_of(lot.form), 0, change.word)


def remainders(lot):
    """Return the first words to all places, as rows; None for endlessly many cosets."""
    if row_cosets(lot) is None:
        return None
    words = first_words(steps_of(lot.form), 0)
    return tuple([Row(lot.letters, word) for word in words.values()])


def is_normal_lot(lot):
    """Return whether with each row of the lot all alike ones are in it."""
    check_row_lot(lot)
    if not lot.form:
        return True
    if row_cosets(lot) is None:
        return False
    steps = steps_of(lot.form)
    return all([numbered_ties(steps, place) == lot.form for place in range(place_count(lot.form))])


def row_mover(lot, other_lot):
    """Return a row by which the first lot is moved into the other one; None if there is none."""
    check_row_lots(lot, other_lot)
    steps = steps_of(lot.form)
    other_steps = steps_of(other_lot.form)
    core = trimmed(steps, None)
    other_core = trimmed(other_steps, None)
    if not core or not other_core:
        return None if core or other_core else Row(lot.letters, "")
    place = min(places_of(core))
    goal = same_place(core, place, other_core)
    if goal is None:
        return None
    back = word_undone(first_words(steps, 0)[place])
    return Row(lot.letters, word_then(first_words(other_steps, 0)[goal], back))


def places_of(steps):
    """Return the places of a web, ascending."""
    return sorted(set([place for place, _ in steps]))


def same_place(steps, place, other_steps):
    """Return a place of the second web from which it is like the first one from its place; None if there is none."""
    ties = numbered_ties(steps, place)
    for goal in places_of(other_steps):
        if numbered_ties(other_steps, goal) == ties:
            return goal
    return None
