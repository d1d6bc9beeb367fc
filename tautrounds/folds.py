"""Folded graphs: what comes of some words, put one behind the other and undone.

Each word is drawn as a way from spot 0 back to it, a step for each letter. Then steps that lead by one letter out of
one spot are made one, as long as there are such: just the words that come of these ones lead from spot 0 back to it.
"""

from tautrounds.words import cut_free


def _drawn(words):
    """The steps of the ways of words, as triples (spot, letter, spot), and how many spots there are."""
    steps = []
    many = 1
    for word in words:
        left = cut_free(word)
        spots = [0] + list(range(many, many + len(left) - 1)) + [0]
        many += max(0, len(left) - 1)
        for at, letter in enumerate(left):
            steps.append((spots[at], letter, spots[at + 1]))
            steps.append((spots[at + 1], letter ^ 1, spots[at]))
    return steps, many


def _name(names, spot):
    """The least spot that was made one with this one."""
    while names[spot] != spot:
        spot = names[spot]
    return spot


def _joined(steps, names):
    """Makes spots one to which one letter leads out of one spot; whether there were such."""
    is_joined = False
    ends = {}
    for start, letter, end in steps:
        key = (_name(names, start), letter)
        last = _name(names, end)
        other = _name(names, ends.setdefault(key, last))
        if other != last:
            names[max(other, last)] = min(other, last)
            is_joined = True
    return is_joined


def folded(words):
    """The folded graph of words: a dict from each spot to the dict from letters to the spots to which they lead."""
    steps, many = _drawn(words)
    names = list(range(many))
    while _joined(steps, names):
        steps = [(_name(names, start), letter, _name(names, end)) for start, letter, end in steps]
    graph = {0: {}}
    for start, letter, end in steps:
        if start not in graph:
            graph[start] = {}
        graph[start][letter] = end
    return graph


def loops_many(graph):
    """How many words, none of which comes of the others, all words of the graph come of."""
    return sum([len(ends) for ends in graph.values()]) // 2 - len(graph) + 1


def trimmed(graph):
    """The graph without the spots out of which just one step leads, as long as there are such."""
    ends = [spot for spot in graph if len(graph[spot]) == 1]
    while ends:
        left = {}
        for spot, steps in graph.items():
            if spot not in ends:
                left[spot] = {letter: other for letter, other in steps.items() if other not in ends}
        graph = left
        ends = [spot for spot in graph if len(graph[spot]) == 1]
    return graph


def _is_laid(one, other, start, spot):
    """Whether one graph is the other one if a spot of it is this spot of the other; both hang together."""
    places = {start: spot}
    left = [start]
    while left:
        here = left.pop()
        there = other[places[here]]
        if sorted(one[here]) != sorted(there):
            return False
        for letter, end in one[here].items():
            if end not in places:
                places[end] = there[letter]
                left.append(end)
            elif places[end] != there[letter]:
                return False
    return len(one) == len(other)


def are_alike(one, other):
    """Whether two trimmed graphs are the same but for the names of their spots.

    Then the words of the one are those of the other, with some word ahead of all and its undone behind.
    """
    start = min(one)
    return any([_is_laid(one, other, start, spot) for spot in other])
