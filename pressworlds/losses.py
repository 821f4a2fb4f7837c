"""A lost word for told words: one of presses that are not all struck, but do nothing.

Bridges (see `bridges`) come about in more than one way. Where two ways of one bridge have unlike presses,
the one and the other one undone are lost. If they never have, each way through the folded web of the told
words has just one row of presses, and no word is lost.
"""

from pressworlds.bridges import PRESSED, Bridges, parents_of
from pressworlds.words import WAYS, beat_of, neck_and_round, word_then, word_undone


def letter_for(index, sign):
    """Return the letter that stands for a told word, its capital for the word undone."""
    return WAYS[2 * index] if sign > 0 else WAYS[2 * index + 1]


def words_of_bridges(bridges):
    """Return a dict from each bridge, and from each pair of a stem and itself, to its presses as a word."""
    words = {(stem, stem): "" for stem in bridges.stems}
    for bridge, way in bridges.ways.items():
        words[bridge] = word_of_way(bridge, way, words)
    return words


def word_of_way(bridge, way, words):
    """Return the presses of a bridge as a word, those of the bridges of which it comes being known."""
    if way[0] == PRESSED:
        return letter_for(way[1], way[2])
    parts = [words[parent] for parent in parents_of(bridge, way)]
    return parts[0] if len(parts) == 1 else word_then(parts[0], parts[1])


def lost_word(told):
    """Return a lost word, the shortest one that this way finds, for told words; None if there is none."""
    bridges = Bridges(told)
    words = words_of_bridges(bridges)
    found = [word_then(letter_for(index, 1), word_undone(words[word, ""])) for index, word in enumerate(told)]
    for bridge in words:
        found = found + loops_at(bridges, words, bridge)
    # Where a word is lost its round part is, and the word that this is some times over, as words have no order.
    lost = [beat_of(neck_and_round(word)[1])[0] for word in found if word]
    return min(lost, key=len) if lost else None


def loops_at(bridges, words, bridge):
    """Return the words of a bridge led on by a letter, or by another bridge, and back by the bridge to there."""
    stem, goal = bridge
    loops = []
    for letter, after in bridges.stems[stem].items():
        if letter in bridges.stems[goal]:
            back = word_undone(words[after, bridges.stems[goal][letter]])
            loops.append(word_then(words[bridge], back))
    for last in bridges.partners[goal]:
        ahead = word_then(words[bridge], words[goal, last])
        loops.append(word_then(ahead, word_undone(words[stem, last])))
    return loops
