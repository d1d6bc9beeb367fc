"""Folded graphs: what comes of some words, put one behind the other and undone.

Each word is drawn as a way from spot 0 back to it, a step for each letter. Then steps that lead by one letter out of
one spot are made one, as long as there are such: just the words that come of these ones lead from spot 0 back to it.
"""

from tautrounds.words import cut_free


def _drawn(words):
    """The steps of the ways of words, as triples (spot, letter, spot), and how many spots there are."""
    steps = []
    many = 1
    for word in words:
        left = cut_free(word)
        spots = [0] + list(range(many, many + len(left) - 1)) + [0]
        many += max(0, len(left) - 1)
        for at, letter in enumerate(left):
            steps.append((spots[at], letter, spots[at + 1]))
            steps.append((spots[at + 1], letter ^ 1, spots[at]))
    return steps, many


def _name(names, spot):
    """The least spot that was made one with this one; what leads there is made shorter."""
    while names[spot] != spot:
        names[spot] = names[names[spot]]
        spot = names[spot]
    return spot


def folded(words):
    """The folded graph of words: a dict from each spot to the dict from letters to the spots to which they lead.

    Where a step is to be drawn beside another one by its letter, the spots to which both lead are made one: the steps
    out of the spot that goes are drawn anew. So words of very many letters are folded in as many steps.
    """
    steps, many = _drawn(words)
    names = list(range(many))
    graph = {spot: {} for spot in names}
    while steps:
        start, letter, end = steps.pop()
        start, end = _name(names, start), _name(names, end)
        other = _name(names, graph[start].setdefault(letter, end))
        if other != end:
            keep, gone = min(other, end), max(other, end)
            names[gone] = keep
            moved = graph.pop(gone)
            steps.extend([(keep, name, beyond) for name, beyond in moved.items()])
    return {
        spot: {letter: _name(names, end) for letter, end in ends.items()}
        for spot, ends in graph.items()
    }


def loops_many(graph):
    """How many words, none of which comes of the others, all words of the graph come of."""
    return sum([len(ends) for ends in graph.values()]) // 2 - len(graph) + 1


def trimmed(graph):
    """The graph without the spots out of which just one step leads, as long as there are such."""
    left = {spot: {letter: other for letter, other in steps.items()} for spot, steps in graph.items()}
    ends = [spot for spot in left if len(left[spot]) == 1]
    while ends:
        steps = left.pop(ends.pop())
        for letter, other in steps.items():
            left[other].pop(letter ^ 1)
            if len(left[other]) == 1:
                ends.append(other)
    return left


def _is_laid(one, other, start, spot):
    """Whether one graph is the other one if a spot of it is this spot of the other; both hang together."""
    places = {start: spot}
    left = [start]
    while left:
        here = left.pop()
        there = other[places[here]]
        if sorted(one[here]) != sorted(there):
            return False
        for letter, end in one[here].items():
            if end not in places:
                places[end] = there[letter]
                left.append(end)
            elif places[end] != there[letter]:
                return False
    return len(one) == len(other)


def are_alike(one, other):
    """Whether two trimmed graphs are the same but for the names of their spots.

    Then the words of the one are those of the other, with some word ahead of all and its undone behind.
    """
    start = min(one)
    return any([_is_laid(one, other, start, spot) for spot in other])
