"""Cuts along simple rounds that do not cross: the parts that they leave, and the rounds that come to lie in these."""

from tautrounds.best import best_drawing, best_rows
from tautrounds.cells import pieces_of
from tautrounds.changes import both_ways
from tautrounds.errors import NotSimple
from tautrounds.folds import are_alike, folded, loops_many, trimmed
from tautrounds.given import is_list, is_number, is_tuple
from tautrounds.linked import pairs_of
from tautrounds.rounds import check_round, check_rounds, closed_up, gone_round_back, rooted
from tautrounds.skins import Skin, check_skin, genus, rims
from tautrounds.slides import are_images, led_free
from tautrounds.twists import check_simple
from tautrounds.words import cut_free


def _check_apart(skin, rounds):
    """NotSimple unless rounds, that surely are such, cross neither themselves nor one another."""
    for place, loop in enumerate(rounds):
        check_simple(skin, loop)
        for other in rounds[place + 1:]:
            if pairs_of(skin, loop, other):
                raise NotSimple("rounds no two of which need to cross are wanted")


def _ends_round(piece):
    """The ends of the strips that the piece's tree does not need, as one goes round it, with the label ahead of each.

    Over the strips of the tree one goes on into the next cell: so all cells of the piece make one disc.
    """
    mesh = piece.mesh
    start = piece.extra[0]
    found = []
    strip = start
    while not found or strip != start:
        label, strip = mesh.beside(strip)
        if strip in piece.tree:
            strip = mesh.across(strip)
        else:
            found.append((label, strip))
    return found


class Part:
    """A part of the cut skin: the skin of it, its labels in the sequence of its rims, the images of its letters.

    names tells the letter of each strip's end that is an end of the part's skin.
    """

    def __init__(self, piece):
        self.piece = piece
        self.names = {}
        label_ahead = {}
        row = []
        for label, strip in _ends_round(piece):
            if strip not in self.names:
                many = len(self.names)
                self.names[strip] = many
                self.names[piece.mesh.across(strip)] = many + 1
            label_ahead[self.names[strip]] = label
            row.append(self.names[strip])
        self.skin = Skin(row)
        self.labels = tuple([label_ahead[rim[0]] for rim in rims(self.skin)])
        even = [strip for strip, letter in self.names.items() if letter % 2 == 0]
        self.images = both_ways([cut_free(piece.way_along(strip)) for strip in even])


def _parts_of(skin, rounds):
    """The parts, ascending by their least label."""
    found = [Part(piece) for piece in pieces_of(best_drawing(skin, rounds))]
    ranks = sorted([(min(part.labels), at) for at, part in enumerate(found)])
    return [found[at] for _, at in ranks]


def _check_cut(skin, rounds):
    """BadSkin, BadRounds, NotSimple unless the skin can be cut along the rounds."""
    check_skin(skin)
    check_rounds(skin, rounds)
    _check_apart(skin, rounds)


def parts(skin, rounds):
    """The list of the triples (labels, part, images) of the parts that the cuts along the rounds leave."""
    _check_cut(skin, rounds)
    return [(part.labels, part.skin, part.images) for part in _parts_of(skin, rounds)]


def _round_at(skin, rounds, label):
    """The round of the skin that goes along the edge with this label, the part lying to its left."""
    side, place = label
    if side == "rim":
        return rims(skin)[place]
    return rounds[place] if side == "left" else gone_round_back(rounds[place])


def _is_label(thing):
    """Whether it is a pair of a text and a number."""
    return is_tuple(thing) and len(thing) == 2 and type(thing[0]) is str and is_number(thing[1])


def _have_labels(skin, rounds, thing, part, images):
    """Whether the images lead the part's rims to the rounds of the labels told."""
    wanted = [_round_at(skin, rounds, label) for label in thing]
    return [closed_up(led_free(images, rim)) for rim in rims(part)] == wanted


def _make_alike(one, other):
    """Whether other leads unlike words to unlike ones, and all to the words of one, but for a word ahead of all."""
    graphs = [folded([images[letter] for letter in range(0, len(images), 2)]) for images in (one, other)]
    if loops_many(graphs[1]) != len(other) // 2:
        return False
    return are_alike(trimmed(graphs[0]), trimmed(graphs[1]))


def _is_told_part(skin, rounds, part, thing):
    """Whether it is a triple that tells this part, perhaps with another Skin and other images."""
    if not is_tuple(thing) or len(thing) != 3:
        return False
    labels, other, images = thing
    if not is_tuple(labels) or not all([_is_label(label) for label in labels]):
        return False
    if sorted(labels) != sorted(part.labels) or not isinstance(other, Skin) or other.bands != part.skin.bands:
        return False
    if not are_images(skin, images, 2 * other.bands):
        return False
    return _have_labels(skin, rounds, labels, other, images) and _make_alike(part.images, images)


def is_parts(skin, rounds, thing):
    """Of any value: whether it tells the parts as parts does, perhaps with other Skins and images."""
    _check_cut(skin, rounds)
    if not is_list(thing):
        return False
    wanted = _parts_of(skin, rounds)
    if len(thing) != len(wanted):
        return False
    return all([_is_told_part(skin, rounds, part, told) for part, told in zip(wanted, thing)])


def _along_edges(skin, rounds, part, loop):
    """The rounds of a part that go along its edges and are led to loop."""
    root, times = rooted(loop)
    found = []
    for label, rim in zip(part.labels, rims(part.skin)):
        edge = _round_at(skin, rounds, label)
        if edge == root:
            found.append(rim * times)
        elif edge == gone_round_back(root):
            found.append(gone_round_back(rim) * times)
    return found


def _strips_gone(mesh, rounds, loop):
    """The strips, each by the end at which it leaves the disc, along which a round is best drawn beside the others."""
    rows = best_rows(mesh.skin, list(rounds) + [loop])
    strips = []
    for place, letter in enumerate(loop):
        row = rows[letter // 2]
        at = len([index for index, _ in row[:row.index((len(rounds), place))] if index < len(rounds)])
        strip = (letter - letter % 2, at)
        strips.append(strip if letter % 2 == 0 else mesh.across(strip))
    return strips


def _home_of_drawn(found, rounds, loop):
    """The home of a round that crosses none of the rounds, and goes along no edge: it is drawn within one part."""
    mesh = found[0].piece.mesh
    strips = _strips_gone(mesh, rounds, loop)
    first = mesh.cell(strips[0])
    at = [first in part.piece.words for part in found].index(True)
    names = found[at].names
    return at, closed_up(tuple([names[strip] for strip in strips if strip in names]))


def home(skin, rounds, loop):
    """The pair of the index of the first part with a round that is led to loop, and the least such; None if none."""
    _check_cut(skin, rounds)
    check_round(skin, loop)
    found = _parts_of(skin, rounds)
    for at, part in enumerate(found):
        along = _along_edges(skin, rounds, part, loop)
        if along:
            return at, min(along)
    if any([pairs_of(skin, other, loop) for other in rounds]):
        return None
    return _home_of_drawn(found, rounds, loop)


def _kind(part):
    """The genus of a part, and how many rims it has."""
    return genus(part.skin), len(rims(part.skin))


def _sides_of(skin, loop):
    """sides of a round that surely is a simple one."""
    found = _parts_of(skin, [loop])
    if len(found) == 1:
        return "whole", _kind(found[0])
    if ("left", 0) in found[0].labels:
        return "parted", _kind(found[0]), _kind(found[1])
    return "parted", _kind(found[1]), _kind(found[0])


def _check_simple_round(skin, loop):
    """BadRound, NotSimple unless it is a simple round."""
    check_round(skin, loop)
    check_simple(skin, loop)


def sides(skin, loop):
    """What a simple round alone leaves, with genus and number of rims: one part, or a left and a right one."""
    check_skin(skin)
    _check_simple_round(skin, loop)
    return _sides_of(skin, loop)


def alike_rounds(skin, one, other):
    """Whether two simple rounds leave the same, in either sequence: then a change leads one to the other."""
    check_skin(skin)
    _check_simple_round(skin, one)
    _check_simple_round(skin, other)
    first, second = _sides_of(skin, one), _sides_of(skin, other)
    return first[0] == second[0] and sorted(first[1:]) == sorted(second[1:])
