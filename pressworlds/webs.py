"""Folded webs: what letters lead from place to place.

Ties are tuples (FROM, LETTER, TO) with a small letter. Steps are the same as a dict, in which each
tie stands twice: by (FROM, LETTER) and, led back, by (TO, CAPITAL). Places are integers, or pairs of
these in the web of a common part; the start of a web that is numbered is 0.
"""

from pressworlds.words import WAYS, ways_of


def tie_of(place, way, goal):
    """Return the tie along which a small letter, or back along which a capital, goes from a place to another."""
    return (place, way, goal) if way.islower() else (goal, way.lower(), place)


def ring_ties(word, first):
    """Return the ties of a ring from the start along a word; its other places are numbered from `first` on."""
    places = [0] + list(range(first, first + len(word) - 1)) + [0]
    return [tie_of(places[at], way, places[at + 1]) for at, way in enumerate(word)]


def clash_of(ties):
    """Return two places to which one letter goes from one place; None if there are none."""
    goals = {}
    for place, letter, goal in ties:
        if goals.setdefault((place, letter), goal) != goal:
            return goals[place, letter], goal
        if goals.setdefault((goal, letter.upper()), place) != place:
            return goals[goal, letter.upper()], place
    return None


def with_one_place(ties, first, second):
    """Return the ties with the greater one of two places made the lesser one, so that the start stays 0."""
    kept = min(first, second)
    gone = max(first, second)
    moved = [(kept if x == gone else x, way, kept if y == gone else y) for x, way, y in ties]
    return sorted(set(moved))


def folded_ties(words):
    """Return the ties, numbered anyhow but for the start, of the folded web of rings along these words."""
    ties = []
    first = 1
    for word in words:
        ties = ties + ring_ties(word, first)
        first += len(word)
    clash = clash_of(ties)
    while clash is not None:
        ties = with_one_place(ties, clash[0], clash[1])
        clash = clash_of(ties)
    return ties


def steps_of(ties):
    """Return the steps of a folded web."""
    steps = {}
    for place, letter, goal in ties:
        steps[place, letter] = goal
        steps[goal, letter.upper()] = place
    return steps


def first_words(steps, start):
    """Return a dict from each place to the word by which it is met from this start, in the order of meeting."""
    words = {start: ""}
    met = [start]
    at = 0
    while at < len(met):
        place = met[at]
        for way in WAYS:
            goal = steps.get((place, way))
            if goal is not None and goal not in words:
                words[goal] = words[place] + way
                met.append(goal)
        at += 1
    return words


def numbered_ties(steps, start):
    """Return the ascending tuple of the ties, the places numbered as they are met from this start."""
    numbers = {place: at for at, place in enumerate(first_words(steps, start))}
    ties = [(numbers[place], way, numbers[steps[place, way]]) for place, way in steps if way.islower()]
    return tuple(sorted(ties))


def form_of_words(words):
    """Return the form of the lot of rows with these words."""
    return numbered_ties(steps_of(folded_ties(words)), 0)


def place_count(ties):
    """Return how many places a numbered web has."""
    return 1 + max([max(place, goal) for place, _, goal in ties], default=0)


def walked_to(steps, place, word):
    """Return the place to which a word goes from a place; None if it does not go."""
    for way in word:
        if place is not None:
            place = steps.get((place, way))
    return place


def lets(steps, word):
    """Return whether a word goes from the start back to it."""
    return walked_to(steps, 0, word) == 0


def is_full(steps, places, letters):
    """Return whether each of so many letters, small or capital, goes from each of so many places."""
    ways = ways_of(letters)
    return all([(place, way) in steps for place in range(places) for way in ways])


def ends_of(steps, kept):
    """Return a dict of the places that hang at one tie alone, without the one that is to be kept."""
    counts = {}
    for place, _ in steps:
        counts[place] = counts.get(place, 0) + 1
    return {place: True for place in counts if counts[place] == 1 and place != kept}


def trimmed(steps, kept):
    """Return the steps without all that hangs at one tie alone, again and again, but for the place to be kept."""
    left = steps
    ends = ends_of(left, kept)
    while ends:
        left = {(place, way): goal for (place, way), goal in left.items() if place not in ends and goal not in ends}
        ends = ends_of(left, kept)
    return left


def paired(steps, others):
    """Return the steps that go in both webs at once, from the pair of the starts on."""
    both = {}
    met = [(0, 0)]
    seen = {(0, 0): True}
    at = 0
    while at < len(met):
        place, other = met[at]
        for way in WAYS:
            if (place, way) in steps and (other, way) in others:
                goal = (steps[place, way], others[other, way])
                both[(place, other), way] = goal
                if goal not in seen:
                    seen[goal] = True
                    met.append(goal)
        at += 1
    return both


def common_form(ties, others):
    """Return the form of the common part of the lots with these two forms."""
    start = (0, 0)
    return numbered_ties(trimmed(paired(steps_of(ties), steps_of(others)), start), start)
