"""Slides of ends over bands, what they make of letters, and the ways to the plain skins."""

from tautrounds.errors import BadImages, BadNumber, NotNow, TooMany
from tautrounds.given import is_list, is_number, is_text, is_tuple, is_within
from tautrounds.skins import Skin, check_skin, end_behind, is_end, is_renaming, renamed
from tautrounds.words import check_word, cut_free, gone_back, is_any_word

MOST_IN_IMAGE = 400


def _put_over(row, end, side):
    """The row with end taken out, and put beside the other end of the band that stands beside it.

    The row is read round only where end stands at the end of it to which it goes.
    """
    over = row[(row.index(end) + side) % len(row)] ^ 1
    left = [other for other in row if other != end]
    at = left.index(over) + 1 if side == 1 else left.index(over)
    return left[:at] + [end] + left[at:]


def _images_of_slide(skin, end, side):
    """The images of the letters when end slides: who goes out by it goes along the other band first."""
    over = end_behind(skin, end, side)
    images = [(letter,) for letter in range(len(skin.row))]
    images[end] = (over, end)
    images[end ^ 1] = (end ^ 1, over ^ 1)
    return images


def _can_slide(skin, end, side):
    """Whether the end beside this one is not that of its own band."""
    return end_behind(skin, end, side) != end ^ 1


def slid(skin, end, side):
    """The pair of the Skin with the end slid over its neighbour's band, and the images of the letters."""
    check_skin(skin)
    if not is_end(skin, end):
        raise BadNumber("end")
    if not is_number(side) or side not in (1, -1):
        raise BadNumber("side")
    if not _can_slide(skin, end, side):
        raise NotNow("the end beside this one is the other end of its band")
    return Skin(_put_over(list(skin.row), end, side)), _images_of_slide(skin, end, side)


def are_images(skin, images, many):
    """Whether it is a list of so many words, however long, those of a band undoing one another."""
    if not is_list(images) or len(images) != many or not all([is_any_word(skin, word) for word in images]):
        return False
    return all([images[letter + 1] == gone_back(images[letter]) for letter in range(0, many, 2)])


def longest(images):
    """How many letters the longest of the words has."""
    return max([len(word) for word in images])


def led_free(images, word):
    """Free of the images of the letters, one behind the other."""
    return cut_free([image for letter in word for image in images[letter]])


def led(skin, images, word):
    """Free of the images of the word's letters, one behind the other."""
    check_skin(skin)
    check_word(skin, word)
    if not are_images(skin, images, len(skin.row)) or longest(images) > MOST_IN_IMAGE:
        raise BadImages("a word is wanted for each letter, and its undone for the other end")
    return led_free(images, word)


def _plain_row(handles, holes):
    """The row with so many handles, then so many bands that make a hole each."""
    row = []
    for _ in range(handles):
        first = len(row)
        row.extend([first, first + 2, first + 1, first + 3])
    for _ in range(holes):
        first = len(row)
        row.extend([first, first + 1])
    return row


def plain_skin(genus, rims):
    """The Skin that stands for all of this genus and number of rims."""
    if not is_within(genus, 0, 3):
        raise BadNumber("genus")
    if not is_within(rims, 2 if genus == 0 else 1, 7):
        raise BadNumber("rims")
    if 2 * genus + rims - 1 > 6:
        raise TooMany(6)
    return Skin(_plain_row(genus, rims - 1))


def _is_plain(skin):
    """Whether the skin is a plain one: slides keep the genus, so no other plain one can be meant."""
    plain_rows = [_plain_row(handles, skin.bands - 2 * handles) for handles in range(skin.bands // 2 + 1)]
    return list(skin.row) in plain_rows


def _slide_here(row, end, side, way):
    """The row behind this slide, which is noted in way."""
    way.append(("slide", end, side))
    return _put_over(row, end, side)


def _end_in_handle(row, start, other):
    """An end that stands within the handle of the bands of row[start] and of other, but belongs to neither.

    None if there is none.
    """
    one = row[start]
    for corner, ahead in ((other, one), (one ^ 1, other), (other ^ 1, one ^ 1)):
        at = row.index(corner) - 1
        if row[at] != ahead:
            return row[at]
    return None


def _with_handle(row, start, other, way):
    """The row with a handle of the bands of row[start] and of other from place start on.

    What stands ahead of one of the handle's ends slides over that end's band, once or more, till it is out behind.
    """
    end = _end_in_handle(row, start, other)
    while end is not None:
        row = _slide_here(row, end, 1, way)
        end = _end_in_handle(row, start, other)
    return row


def _with_blocks(row, way):
    """The row in which each band is part of a handle, or has both of its ends side by side."""
    start = 0
    while start < len(row):
        one = row[start]
        inside = row[start + 1:row.index(one ^ 1)]
        parting = [end for end in inside if end ^ 1 not in inside]
        if parting:
            row = _with_handle(row, start, parting[0], way)
            start += 4
        elif inside:
            row = _slide_here(row, one, 1, way)
        else:
            start += 2
    return row


def _end_behind_hole(row):
    """The first end that stands right behind both ends of a band, but is in no such pair; None if there is none."""
    start = 0
    hole_ahead = False
    while start < len(row):
        if start + 1 < len(row) and row[start + 1] == row[start] ^ 1:
            hole_ahead = True
            start += 2
        elif hole_ahead:
            return row[start]
        else:
            start += 1
    return None


def _with_holes_last(row, way):
    """The row with all handles ahead of all holes: the ends of the handles slide over the holes."""
    end = _end_behind_hole(row)
    while end is not None:
        row = _slide_here(row, end, -1, way)
        end = _end_behind_hole(row)
    return row


def _many_handles(row):
    """How many handles stand at the front of a row of handles and then holes."""
    many = 0
    while 4 * many < len(row) and row[4 * many] ^ 1 != row[4 * many + 1]:
        many += 1
    return many


def plain_way(skin):
    """A way that leads the skin to the plain one of its genus and number of rims."""
    check_skin(skin)
    way = []
    row = _with_holes_last(_with_blocks(list(skin.row), way), way)
    handles = _many_handles(row)
    letters = [0] * len(row)
    for end, name in zip(row, _plain_row(handles, skin.bands - 2 * handles)):
        letters[end] = name
    if letters != list(range(len(letters))):
        way.append(("rename", tuple(letters)))
    return way


def _is_slide(skin, step):
    """Whether the step is a slide that can be done now."""
    if len(step) != 3 or not is_text(step[0], "slide") or not is_end(skin, step[1]):
        return False
    return is_number(step[2]) and step[2] in (1, -1) and _can_slide(skin, step[1], step[2])


def _is_rename(skin, step):
    """Whether the step is a renaming; its letters are a tuple."""
    if len(step) != 2 or not is_text(step[0], "rename"):
        return False
    return is_tuple(step[1]) and is_renaming(skin, step[1])


def _behind_step(skin, step):
    """The skin to which a step leads; None if it is no step that can be done."""
    if not is_tuple(step):
        return None
    if _is_slide(skin, step):
        return Skin(_put_over(list(skin.row), step[1], step[2]))
    return renamed(skin, step[1]) if _is_rename(skin, step) else None


def _leads_to_plain(skin, thing):
    """Whether it is a way of the skin that leads to a plain one."""
    if not is_list(thing):
        return False
    for step in thing:
        skin = _behind_step(skin, step)
        if skin is None:
            return False
    return _is_plain(skin)


def is_plain_way(skin, thing):
    """Of any value: whether it is a way that leads to the plain skin, however long."""
    check_skin(skin)
    return _leads_to_plain(skin, thing)


def _images_of_step(skin, step):
    """The images to which one step leads."""
    if step[0] == "slide":
        return _images_of_slide(skin, step[1], step[2])
    return [(letter,) for letter in step[1]]


def way_images(skin, way):
    """The images to which all steps of the way lead, one behind the other."""
    check_skin(skin)
    if not _leads_to_plain(skin, way):
        raise NotNow("this is no way to the plain skin")
    images = [(letter,) for letter in range(len(skin.row))]
    for step in way:
        images = [led_free(_images_of_step(skin, step), word) for word in images]
        if longest(images) > MOST_IN_IMAGE:
            raise TooMany(MOST_IN_IMAGE)
        skin = _behind_step(skin, step)
    return images
