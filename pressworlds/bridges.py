"""Short plans for rows that are made.

A stem is a beginning of a told word, the empty and the whole one included. Two stems x and y are
bridged if x, then y undone, is made. A told word is bridged to the empty one by one press; stems
that one letter leads away from bridged ones are bridged by the same presses, and bridges can be
put behind one another. These are just the stems that lie at one place of the folded web.
A word that is made is gone letter by letter, changing over between bridged stems; what is pressed
up to there is then always the letters gone, and a stem undone, or a little more within a bridge.
So nothing on the way becomes much longer than the word itself.
"""

from heapq import heappop, heappush

from pressworlds.plans import presses_joined
from pressworlds.words import WAYS, word_then

PRESSED = 0
LED = 1
BY = 2


def stems_of(told):
    """Return a dict from each stem to a dict from the letters that lead on among the stems to where they lead."""
    stems = {"": True}
    for word in told:
        for size in range(1, len(word) + 1):
            stems[word[:size]] = True
    return {stem: goals_from(stem, stems) for stem in stems}


def goals_from(stem, stems):
    """Return a dict from the letters, small and capital, that lead from a stem to another one to where they lead."""
    goals = {way: word_then(stem, way) for way in WAYS}
    return {way: goal for way, goal in goals.items() if goal in stems}


class Bridges:
    """All bridges between the stems of told words, each with the fewest presses that can be had so.

    `ways` has for each bridge how it comes about, those that it comes of ahead of it; `costs` has
    its number of presses; `partners` has for each stem the stems to which it is bridged.
    """

    def __init__(self, told):
        self.stems = stems_of(told)
        self.ways = {}
        self.costs = {}
        self.partners = {stem: [] for stem in self.stems}
        self.queue = []
        for index, word in enumerate(told):
            if word:
                heappush(self.queue, (1, word, "", (PRESSED, index, 1)))
        while self.queue:
            cost, stem, goal, way = heappop(self.queue)
            if stem != goal and (stem, goal) not in self.ways:
                self.keep(cost, stem, goal, way)

    def keep(self, cost, stem, goal, way):
        """Keep a bridge, the way back with it, and line up what comes of it."""
        self.ways[stem, goal] = way
        self.ways[goal, stem] = way_back(way)
        self.costs[stem, goal] = cost
        self.costs[goal, stem] = cost
        for letter in self.stems[stem]:
            if letter in self.stems[goal]:
                self.line_up(cost, self.stems[stem][letter], self.stems[goal][letter], (LED, stem, goal))
        for last in self.partners[goal]:
            self.line_up(cost + self.costs[goal, last], stem, last, (BY, goal))
        for last in self.partners[stem]:
            self.line_up(cost + self.costs[stem, last], goal, last, (BY, stem))
        self.partners[stem].append(goal)
        self.partners[goal].append(stem)

    def line_up(self, cost, stem, goal, way):
        """Line up a bridge that may be kept later, if no cheaper one is."""
        if (stem, goal) not in self.ways:
            heappush(self.queue, (cost, stem, goal, way))

    def presses_for(self, changeovers):
        """Return the list of presses, pairs (index, times), of these bridges, one behind another."""
        needed = self.needed_for(changeovers)
        presses = {}
        for bridge, way in self.ways.items():
            if bridge in needed:
                presses[bridge] = presses_of_way(bridge, way, presses)
        total = []
        for bridge in changeovers:
            total = presses_joined(total, presses[bridge])
        return total

    def needed_for(self, changeovers):
        """Return a dict of these bridges and of those that they come of."""
        needed = {bridge: True for bridge in changeovers}
        for bridge in reversed(list(self.ways)):
            if bridge in needed:
                for parent in parents_of(bridge, self.ways[bridge]):
                    needed[parent] = True
        return needed


def way_back(way):
    """Return how a bridge comes about the other way round."""
    if way[0] == PRESSED:
        return PRESSED, way[1], -way[2]
    if way[0] == LED:
        return LED, way[2], way[1]
    return way


def parents_of(bridge, way):
    """Return the bridges of which one comes."""
    if way[0] == PRESSED:
        return []
    if way[0] == LED:
        return [(way[1], way[2])]
    return [(bridge[0], way[1]), (way[1], bridge[1])]


def presses_of_way(bridge, way, presses):
    """Return the presses of a bridge, those of the bridges of which it comes being known."""
    if way[0] == PRESSED:
        return [(way[1], way[2])]
    parts = [presses[parent] for parent in parents_of(bridge, way)]
    return parts[0] if len(parts) == 1 else presses_joined(parts[0], parts[1])


def cheapest_onto(bridges, reach, goal):
    """Return the pair of the least cost to come from a reached stem over a bridge to a stem, and that first stem."""
    best = None
    if goal in reach:
        best = (reach[goal], goal)
    for stem in bridges.partners[goal]:
        if stem in reach:
            cost = reach[stem] + bridges.costs[stem, goal]
            if best is None or cost < best[0]:
                best = (cost, stem)
    return best


def gone_on(bridges, reach, letter):
    """Return the stems that are reached with one letter more, and from where they are."""
    after = {}
    origins = {}
    for stem, ways in bridges.stems.items():
        if letter in ways:
            best = cheapest_onto(bridges, reach, stem)
            if best is not None:
                after[ways[letter]] = best[0]
                origins[ways[letter]] = (best[1], stem)
    return after, origins


def changeovers_of(bridges, word):
    """Return the bridges, in order, over which a word that is made goes with the fewest presses."""
    reach = {"": 0}
    trail = []
    for letter in word:
        reach, origins = gone_on(bridges, reach, letter)
        trail.append(origins)
    found = [(cheapest_onto(bridges, reach, "")[1], "")]
    for origins in reversed(trail):
        found.append(origins[found[-1][0]])
    return [(stem, goal) for stem, goal in reversed(found) if stem != goal]


def presses_for_word(bridges, word):
    """Return the presses, pairs (index, times), that do a word that is made."""
    return bridges.presses_for(changeovers_of(bridges, word))
