"""What the tests share: skins, rounds and drawings of many kinds, and the check that an error is raised."""

import random
from itertools import permutations, product

from tautrounds.drawings import Drawing, strands_along
from tautrounds.rounds import along, is_round, root_of, round_of
from tautrounds.skins import Skin

TORUS = Skin((0, 2, 1, 3))
HOLES = Skin((0, 1, 2, 3))
RING = Skin((0, 1))

# Values of other kinds, for whatever is wanted.
ODD_VALUES = [None, True, False, 0.0, 1.5, "", "0", b"\0", object(), {}, {0: 1}, set(), Skin, len]
NO_SKINS = [None, 0, True, (0, 1), [0, 1], "skin", Skin, object()]
NO_NUMBERS = [None, True, False, 0.0, 1.0, "0", "1", (0,), [1], {}]


class Counterfeit:
    """Counts as equal to anything, but is of another kind."""

    def __eq__(self, other):
        return True

    def __hash__(self):
        return 0


def check_error(case, error, wanted, act, *parts, **named):
    """That act raises just this error; wanted is None or the pair of an attribute and its value."""
    with case.assertRaises(error) as caught:
        act(*parts, **named)
    case.assertIs(type(caught.exception), error)
    if wanted is not None:
        value = getattr(caught.exception, wanted[0])
        case.assertEqual(value, wanted[1])
        case.assertIs(type(value), type(wanted[1]))


def all_rows(bands):
    """All rows of so many bands that begin with 0."""
    return [(0,) + rest for rest in permutations(range(1, 2 * bands))]


def chance_skin(chance, bands):
    row = list(range(2 * bands))
    chance.shuffle(row)
    return Skin(row)


def chance_word(chance, skin, size):
    return tuple(chance.randrange(2 * skin.bands) for _ in range(size))


def chance_round(chance, skin, most):
    """A round of at most so many letters."""
    while True:
        loop = round_of(skin, chance_word(chance, skin, chance.randint(1, most)))
        if loop:
            return loop


def chance_rounds(chance, skin, many, most):
    return [chance_round(chance, skin, most) for _ in range(many)]


def chance_unlike(chance, skin, many, most):
    """At most so many rounds, each its own root, no two along one another."""
    rounds = []
    for loop in chance_rounds(chance, skin, many, most):
        if root_of(skin, loop)[1] == 1 and not any(along(skin, loop, other) for other in rounds):
            rounds.append(loop)
    return rounds


def chance_drawing(chance, skin, rounds):
    rows = [strands_along(rounds, band) for band in range(skin.bands)]
    for row in rows:
        chance.shuffle(row)
    return Drawing(skin, rounds, rows)


def chance_renaming(chance, bands):
    names = list(range(bands))
    chance.shuffle(names)
    letters = []
    for name in names:
        turn = chance.randrange(2)
        letters += [2 * name + turn, 2 * name + 1 - turn]
    return letters


def all_drawings(skin, rounds):
    rows = [list(permutations(strands_along(rounds, band))) for band in range(skin.bands)]
    return [Drawing(skin, rounds, chosen) for chosen in product(*rows)]


def all_rounds(skin, most):
    """All rounds of at most so many letters."""
    words = [word for size in range(1, most + 1) for word in product(range(2 * skin.bands), repeat=size)]
    return [word for word in words if is_round(skin, word)]


def chance_of(seed):
    return random.Random(seed)
