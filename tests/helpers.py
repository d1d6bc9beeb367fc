"""What the tests share: skins, rounds and drawings of many kinds, and the check that an error is raised."""

import random
from itertools import permutations, product

from tautrounds.best import best_rows
from tautrounds.bridges import bridge_of
from tautrounds.changes import behind
from tautrounds.drawings import Drawing, strands_along
from tautrounds.errors import RoundError, TooMany
from tautrounds.fans import first_fan
from tautrounds.flips import flipped
from tautrounds.linked import crossings, own_crossings
from tautrounds.live import Live
from tautrounds.rounds import along, closed_up, is_round, root_of, round_of, turned_about
from tautrounds.skins import Skin, mirrored, renamed, rims
from tautrounds.slides import led
from tautrounds.twists import twist
from tautrounds.words import gone_back

TORUS = Skin((0, 2, 1, 3))
HOLES = Skin((0, 1, 2, 3))
RING = Skin((0, 1))

# Values of other kinds, for whatever is wanted.
ODD_VALUES = [None, True, False, 0.0, 1.5, "", "0", b"\0", object(), {}, {0: 1}, set(), Skin, len]
NO_SKINS = [None, 0, True, (0, 1), [0, 1], "skin", Skin, object()]
NO_NUMBERS = [None, True, False, 0.0, 1.0, "0", "1", (0,), [1], {}]


class Counterfeit:
    """Counts as equal to anything, but is of another kind."""

    def __eq__(self, other):
        return True

    def __hash__(self):
        return 0


def check_error(case, error, wanted, act, *parts, **named):
    """That act raises just this error; wanted is None or the pair of an attribute and its value."""
    with case.assertRaises(error) as caught:
        act(*parts, **named)
    case.assertIs(type(caught.exception), error)
    if wanted is not None:
        value = getattr(caught.exception, wanted[0])
        case.assertEqual(value, wanted[1])
        case.assertIs(type(value), type(wanted[1]))


def all_rows(bands):
    """All rows of so many bands that begin with 0."""
    return [(0,) + rest for rest in permutations(range(1, 2 * bands))]


def chance_skin(chance, bands):
    row = list(range(2 * bands))
    chance.shuffle(row)
    return Skin(row)


def chance_word(chance, skin, size):
    return tuple(chance.randrange(2 * skin.bands) for _ in range(size))


def chance_round(chance, skin, most):
    """A round of at most so many letters."""
    while True:
        loop = round_of(skin, chance_word(chance, skin, chance.randint(1, most)))
        if loop:
            return loop


def chance_rounds(chance, skin, many, most):
    return [chance_round(chance, skin, most) for _ in range(many)]


def chance_unlike(chance, skin, many, most):
    """At most so many rounds, each its own root, no two along one another."""
    rounds = []
    for loop in chance_rounds(chance, skin, many, most):
        if root_of(skin, loop)[1] == 1 and not any(along(skin, loop, other) for other in rounds):
            rounds.append(loop)
    return rounds


def chance_drawing(chance, skin, rounds):
    rows = [strands_along(rounds, band) for band in range(skin.bands)]
    for row in rows:
        chance.shuffle(row)
    return Drawing(skin, rounds, rows)


def chance_renaming(chance, bands):
    names = list(range(bands))
    chance.shuffle(names)
    letters = []
    for name in names:
        turn = chance.randrange(2)
        letters += [2 * name + turn, 2 * name + 1 - turn]
    return letters


def all_drawings(skin, rounds):
    rows = [list(permutations(strands_along(rounds, band))) for band in range(skin.bands)]
    return [Drawing(skin, rounds, chosen) for chosen in product(*rows)]


def all_rounds(skin, most):
    """All rounds of at most so many letters."""
    words = [word for size in range(1, most + 1) for word in product(range(2 * skin.bands), repeat=size)]
    return [word for word in words if is_round(skin, word)]


def chance_of(seed):
    return random.Random(seed)


def chance_simple(chance, skin, most):
    """A simple round of at most so many letters; a rim if chance finds no other one."""
    for _ in range(60):
        loop = chance_round(chance, skin, most)
        if own_crossings(skin, loop) == 0:
            return loop
    return chance.choice(rims(skin))


def chance_apart(chance, skin, many, most):
    """At most so many simple rounds, no two of which cross; some may go along one another."""
    rounds = []
    for _ in range(4 * many):
        loop = chance_simple(chance, skin, most)
        if len(rounds) < many and not any(crossings(skin, loop, other) for other in rounds):
            rounds.append(loop)
            if chance.randrange(4) == 0 and len(rounds) < many:
                rounds.append(chance.choice([loop, turned_about(skin, loop)]))
    return rounds


def own_images(skin):
    """The images that lead each letter to itself."""
    return [(letter,) for letter in range(2 * skin.bands)]


def images_from(words):
    """The images that have these words for the even letters."""
    return [image for word in words for image in (word, gone_back(word))]


def led_round(skin, images, loop):
    """The round to which a round, or a word, is led, however long."""
    return closed_up(led(skin, images, loop))


def chance_change(chance, skin, many):
    """A change: so many twists, one behind the other, or fewer where the words would grow too long."""
    images = own_images(skin)
    for _ in range(many):
        step = twist(skin, chance_simple(chance, skin, 4), chance.choice([-2, -1, 1, 2]))
        try:
            images = behind(skin, images, step)
        except TooMany:
            pass
    return images


def forward_rims(skin, images):
    """Whether the images lead each rim to a rim, not turned about."""
    return sorted(led_round(skin, images, rim) for rim in rims(skin)) == rims(skin)


def chance_sum(chance, skin, many, most):
    """A sum of at most so many rounds."""
    return {loop: chance.choice([-3, -2, -1, 1, 2, 5]) for loop in chance_rounds(chance, skin, many, most)}


def check_ascending(case, told):
    """That a dict, or a list, is told ascending, and is a plain one."""
    case.assertIn(type(told), (dict, list))
    case.assertEqual(list(told), sorted(told))


def chance_deed(chance, live):
    """A deed that may be done with a live skin, or be refused."""
    skin, names = live.skin, live.names or ("none",)
    kind = chance.choice(["draw", "draw", "draw", "wipe", "swap", "settle", "slide", "rename", "change", "twist"])
    if kind == "draw":
        return kind, chance.choice("uvwxyz"), chance_round(chance, skin, 4)
    if kind == "wipe":
        return kind, chance.choice(names)
    if kind == "swap":
        return kind, chance.randrange(skin.bands), chance.randrange(3)
    if kind == "slide":
        return kind, chance.randrange(2 * skin.bands), chance.choice([1, -1])
    if kind == "rename":
        return kind, tuple(chance_renaming(chance, skin.bands))
    if kind == "change":
        return kind, tuple(twist(skin, chance_simple(chance, skin, 2), chance.choice([-1, 1])))
    return (kind, chance.choice(names), chance.choice([-1, 1, 2])) if kind == "twist" else (kind,)


def chance_deeds(chance, skin, many):
    """So many deeds that can be done one after the other from a skin on."""
    live = Live(skin)
    deeds = []
    while len(deeds) < many:
        deed = chance_deed(chance, live)
        try:
            live.do([deed])
        except RoundError:
            continue
        deeds.append(deed)
    return deeds


def live_of(skin, deeds):
    """A live skin to which deeds are done one after the other."""
    live = Live(skin)
    for deed in deeds:
        live.do([deed])
    return live


def counted_numbers(skin, rounds):
    """The numbers of a bundle counted chord by chord, as the document states them."""
    many = 2 * skin.bands
    chords = [(loop[at - 1] ^ 1, loop[at]) for loop in rounds for at in range(len(loop))]
    places = [sorted(skin.row.index(end) for end in chord) for chord in chords]
    bands = [sum(letter // 2 == band for loop in rounds for letter in loop) for band in range(skin.bands)]
    return tuple(bands + [sum(low < i <= high for low, high in places) for i in range(2, many - 1)])


def chance_numbers(chance, skin, most):
    """The numbers of some bundle, each band with at most so many letters: heights are chosen as the triangles let."""
    row = skin.row
    bands = [chance.randint(0, most) for _ in range(skin.bands)]
    if skin.bands == 1:
        return tuple(bands)
    last = len(row) - 1
    low, high = {last: bands[row[last] // 2]}, {last: bands[row[last] // 2]}
    for i in range(last - 1, 0, -1):
        x = bands[row[i] // 2]
        low[i], high[i] = max(0, low[i + 1] - x, x - high[i + 1]), high[i + 1] + x
    height = bands[row[0] // 2]
    if not low[1] <= height <= high[1]:
        return chance_numbers(chance, skin, most)
    heights = []
    for i in range(1, last - 1):
        x = bands[row[i] // 2]
        least, greatest = max(abs(height - x), low[i + 1]), min(height + x, high[i + 1])
        least += (least + height + x) % 2
        if least > greatest:
            return chance_numbers(chance, skin, most)
        height = least + 2 * chance.randint(0, (greatest - least) // 2)
        heights.append(height)
    return tuple(bands + heights)


def plain(skin, loop):
    """The lesser one of a round and it turned about, however long."""
    return min(loop, closed_up(gone_back(loop)))


def rounds_in(told):
    """The rounds of what bundle_of told, each as often as it is there."""
    return [loop for loop, times in told for _ in range(times)]


def chords_crossing(skin, one, other):
    """How often two rounds cross, counted by chords: in the best drawing of both, however long they are."""
    places = {}
    for band, row in enumerate(best_rows(skin, [one, other])):
        for end in (2 * band, 2 * band + 1):
            for at, strand in enumerate(row if end % 2 == 0 else row[::-1]):
                places[(strand, end)] = (skin.row.index(end), at)
    chords = [[], []]
    for index, loop in enumerate((one, other)):
        for at, letter in enumerate(loop):
            before = (at - 1) % len(loop)
            ends = (places[((index, before), loop[before] ^ 1)], places[((index, at), letter)])
            chords[index].append(sorted(ends))
    many = 0
    for low, high in chords[0]:
        many += sum((low < start < high) != (low < end < high) for start, end in chords[1])
    return many


def chance_turning(chance, skin):
    """A change that renames letters, perhaps one that turns rims about; None if chance finds none but itself."""
    for _ in range(400):
        letters = chance_renaming(chance, skin.bands)
        row = renamed(skin, letters).row
        if row in (skin.row, mirrored(skin).row) and letters != list(range(2 * skin.bands)):
            return [(letter,) for letter in letters]
    return None


def chance_bridge(chance, skin, most):
    """A bridge from a word of at most so many letters."""
    while True:
        word = chance_word(chance, skin, chance.randint(0, most))
        bridge = bridge_of(skin, chance.randrange(2 * skin.bands), word, chance.randrange(2 * skin.bands))
        if bridge is not None and len(bridge[1]) <= 40:
            return bridge


def chance_fan(chance, skin, many):
    """A fan behind so many flips, or fewer where they cannot be done."""
    fan = first_fan(skin)
    for _ in range(many):
        try:
            fan, _ = flipped(skin, fan, chance.randrange(len(fan)))
        except RoundError:
            pass
    return fan


def around(skin, gap):
    """The bridge around the end behind a gap."""
    return bridge_of(skin, gap, (), (gap + 1) % (2 * skin.bands))


def across(skin, gap):
    """The bridge from gap 0 across the disc to another gap."""
    return bridge_of(skin, 0, (), gap)
