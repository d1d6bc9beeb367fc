"""Logs: the text of a live skin's first skin, and of the steps that were done."""

from tautrounds.deeds import is_name
from tautrounds.errors import BadText, RoundError
from tautrounds.live import Live, check_live
from tautrounds.readers import LETTER_SIGNS, Reader, signs_of

BETWEEN_DEEDS = "; "
SIDES = {"+": 1, "-": -1}


def _deed_words(deed):
    """The words of the row of a deed."""
    kind = deed[0]
    if kind == "draw":
        return [kind, deed[1], signs_of(deed[2])]
    if kind == "slide":
        return [kind, signs_of([deed[1]]), "+" if deed[2] == 1 else "-"]
    if kind == "rename":
        return [kind, signs_of(deed[1])]
    if kind == "change":
        return [kind] + [signs_of(word) for word in deed[1]]
    return [kind] + [str(thing) for thing in deed[1:]]


def step_row(step):
    """The row of a step, without its line feed."""
    return BETWEEN_DEEDS.join([" ".join(_deed_words(deed)) for deed in step])


def log_rows(live):
    """The rows of the text of a live skin that surely is one."""
    return [signs_of(live.first.row)] + [step_row(step) for step in live.steps()]


def log_text(live):
    """The text of the first skin, and a row for each step that is done."""
    check_live(live)
    return "".join([row + "\n" for row in log_rows(live)])


def _read_name(word):
    """The name of this text; None if it is none."""
    return word if is_name(word) else None


def _read_letters(word):
    """The letters with these signs, one or more, of any skin; None if there are others."""
    if not word or not all([sign in LETTER_SIGNS for sign in word]):
        return None
    return tuple([LETTER_SIGNS.index(sign) for sign in word])


def _read_letter(word):
    """The letter of this one sign; None if it is none."""
    letters = _read_letters(word)
    return letters[0] if letters is not None and len(letters) == 1 else None


def _read_side(word):
    """The side of a slide; None if it is none."""
    return SIDES.get(word)


def _read_number(word):
    """The number of this text; None if it is none."""
    reader = Reader(word)
    try:
        number = reader.read_number()
    except BadText:
        return None
    return number if reader.is_ended() else None


FORMS = {
    "draw": (_read_name, _read_letters), "wipe": (_read_name,), "swap": (_read_number, _read_number), "settle": (),
    "slide": (_read_letter, _read_side), "rename": (_read_letters,), "twist": (_read_name, _read_number),
}


def _read_things(kind, words):
    """The things of a deed of this kind; None if one of the words is of another form."""
    if kind == "change":
        images = tuple([_read_letters(word) for word in words])
        return None if not images or None in images else [images]
    readers = FORMS[kind]
    if len(words) != len(readers):
        return None
    things = []
    for read, word in zip(readers, words):
        things.append(read(word))
    return None if None in things else things


def _read_deed(text):
    """The deed of this text; None if it is none."""
    words = text.split(" ")
    if words[0] != "change" and words[0] not in FORMS:
        return None
    things = _read_things(words[0], words[1:])
    return None if things is None else (words[0],) + tuple(things)


def read_step(row):
    """The deeds of the row of a step; None if it is of another form."""
    deeds = [_read_deed(text) for text in row.split(BETWEEN_DEEDS)]
    return None if None in deeds else deeds


def _is_done(live, row):
    """Whether a row tells a step that can be done; then it is."""
    deeds = read_step(row)
    if deeds is None:
        return False
    try:
        live.do(deeds)
    except RoundError:
        return False
    return True


def _first_skin(text):
    """The skin of the first row of a log; BadText(0) unless there is one."""
    reader = Reader(text)
    try:
        skin = reader.read_skin()
        reader.read_sign("\n")
    except BadText:
        raise BadText(0) from None
    return skin


def read_log(text):
    """The pair of the Live to which the rows lead that can be read and done, and how many signs these have."""
    live = Live(_first_skin(text))
    good = text.index("\n") + 1
    end = text.find("\n", good)
    while end >= 0 and _is_done(live, text[good:end]):
        good = end + 1
        end = text.find("\n", good)
    return live, good
