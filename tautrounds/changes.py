"""Images of a skin in itself: which of them are changes, that can be undone, and what shows that others are none."""

from tautrounds.bases import undone_basis
from tautrounds.errors import BadImages, TooMany
from tautrounds.folds import folded
from tautrounds.given import is_text, is_tuple
from tautrounds.linked import own_number, pairs_of
from tautrounds.rounds import closed_up, gone_round_back, is_fit_round
from tautrounds.skins import check_skin, is_end, rims
from tautrounds.slides import are_images, led_free, longest
from tautrounds.sums import check_sum, put_together
from tautrounds.words import MOST_LETTERS, gone_back

MOST_SHOWN = 40
MOST_IN_SHOWING = 12
# More letters than a word can have that one machine can hold.
ANY_MANY = 10 ** 18


def _are_fit_images(skin, images):
    """Whether it is images of a skin that surely is one."""
    return are_images(skin, images, len(skin.row)) and longest(images) <= MOST_LETTERS


def check_images(skin, images):
    """BadImages unless it is images of the skin."""
    if not _are_fit_images(skin, images):
        raise BadImages("a word of at most 200 letters is wanted for each letter, and its undone for the other end")


def both_ways(words):
    """The images that have these words for the even letters."""
    images = []
    for word in words:
        images.extend([word, gone_back(word)])
    return images


def check_lengths(images):
    """TooMany(200) if one of the images has more than 200 letters."""
    if longest(images) > MOST_LETTERS:
        raise TooMany(MOST_LETTERS)


def behind(skin, one, other):
    """The images that do one and then other."""
    check_skin(skin)
    check_images(skin, one)
    check_images(skin, other)
    images = [led_free(other, word) for word in one]
    check_lengths(images)
    return images


def led_sum(skin, images, some):
    """The sum of the rounds to which those of a sum are led."""
    check_skin(skin)
    check_images(skin, images)
    check_sum(skin, some)
    rows = [(closed_up(led_free(images, loop)), number) for loop, number in some.items()]
    return put_together([(loop, number) for loop, number in rows if loop])


def _lost_letters(images):
    """The letters to which no word is led."""
    graph = folded([images[letter] for letter in range(0, len(images), 2)])
    return [letter for letter in range(len(images)) if graph[0].get(letter) != 0]


def led_rims(skin, images):
    """The rounds to which the rims are led, ascending."""
    return sorted([closed_up(led_free(images, rim)) for rim in rims(skin)])


def leads_as_change(skin, images):
    """Whether images, of words of any length, are a change."""
    if _lost_letters(images):
        return False
    around = rims(skin)
    return led_rims(skin, images) in (around, sorted([gone_round_back(rim) for rim in around]))


def is_change(skin, images):
    """Of any value: whether it is images of the skin that can be undone, and lead rims to rims."""
    check_skin(skin)
    return _are_fit_images(skin, images) and leads_as_change(skin, images)


def check_change(skin, images):
    """BadImages unless it is a change of a skin that surely is one."""
    if not _are_fit_images(skin, images) or not leads_as_change(skin, images):
        raise BadImages("images that can be undone, and that lead rims to rims, are wanted")


def _undone_within(images, most):
    """The images that undo a change; TooMany(most) if one of them would have more than most letters."""
    return both_ways(undone_basis([images[letter] for letter in range(0, len(images), 2)], most))


def undone_images(images):
    """The images, of words of any length, that undo those of a change."""
    return _undone_within(images, ANY_MANY)


def undone_change(skin, images):
    """The images that undo a change."""
    check_skin(skin)
    check_change(skin, images)
    return _undone_within(images, MOST_LETTERS)


def _keeps_number(skin, images, one, other):
    """Whether two rounds, or one with itself, cross as often as those, with letters, to which they are led."""
    led_one, led_other = [closed_up(led_free(images, loop)) for loop in (one, other)]
    if one == other:
        return own_number(skin, one) == own_number(skin, led_one)
    return len(pairs_of(skin, one, other)) == len(pairs_of(skin, led_one, led_other))


def _short_rounds(skin):
    """The rounds of one or two letters."""
    letters = range(len(skin.row))
    words = [(letter,) for letter in letters] + [(one, other) for one in letters for other in letters]
    return [word for word in words if is_fit_round(skin, word)]


def _showing_rounds(skin, images):
    """The pairs of rounds that may show against images that can be undone: a rim and itself, or a short round."""
    around = rims(skin)
    short = _short_rounds(skin)
    return [(rim, rim) for rim in around] + [(rim, loop) for rim in around for loop in short if loop != rim]


def _check_shown_images(skin, images):
    """BadImages unless it is images of the skin, TooMany(40) if one of them has more than 40 letters."""
    check_images(skin, images)
    if longest(images) > MOST_SHOWN:
        raise TooMany(MOST_SHOWN)


def shown_against(skin, images):
    """What shows that images are no change: a letter to which nothing is led, or two rounds; None if they are one."""
    check_skin(skin)
    _check_shown_images(skin, images)
    if leads_as_change(skin, images):
        return None
    lost = _lost_letters(images)
    if lost:
        return "letter", lost[0]
    for one, other in _showing_rounds(skin, images):
        if not _keeps_number(skin, images, one, other):
            return "rounds", one, other
    return None


def _is_showing_pair(skin, images, one, other):
    """Whether these are two rounds that show against the images."""
    for loop in (one, other):
        if not is_fit_round(skin, loop) or len(loop) > MOST_IN_SHOWING or not closed_up(led_free(images, loop)):
            return False
    return not _keeps_number(skin, images, one, other)


def is_shown_against(skin, images, thing):
    """Of any value: whether it shows, as shown_against tells it, that the images are no change."""
    check_skin(skin)
    _check_shown_images(skin, images)
    if not is_tuple(thing):
        return False
    if len(thing) == 2 and is_text(thing[0], "letter"):
        return is_end(skin, thing[1]) and thing[1] in _lost_letters(images)
    if len(thing) == 3 and is_text(thing[0], "rounds"):
        return _is_showing_pair(skin, images, thing[1], thing[2])
    return False
