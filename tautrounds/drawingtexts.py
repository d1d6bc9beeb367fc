"""Texts of sums and drawings, row by row."""

from tautrounds.drawings import Drawing, check_drawing, strands_along
from tautrounds.readers import Reader, signs_of
from tautrounds.rounds import MOST_ROUNDS, MOST_TOGETHER
from tautrounds.skins import check_skin
from tautrounds.sums import MOST_IN_SUM, check_sum, is_number_of_sum


def rows_of_sum(some):
    """The rows of the text of a sum, however great."""
    return [str(some[loop]) + " " + signs_of(loop) for loop in sorted(some)]


def sum_text(skin, some):
    """The text of a sum: a row for each round, with its number."""
    check_skin(skin)
    check_sum(skin, some)
    return "".join([row + "\n" for row in rows_of_sum(some)])


def rows_of_drawing(drawing):
    """The rows of the text of a drawing that surely is one."""
    rows = [signs_of(drawing.skin.row), " ".join([signs_of(loop) for loop in drawing.rounds])]
    for row in drawing.rows:
        rows.append(" ".join([str(index) + "." + str(place) for index, place in row]))
    return rows


def drawing_text(drawing):
    """The text of a drawing: its skin, its rounds, and a row of strands for each band."""
    check_drawing(drawing)
    return "".join([row + "\n" for row in rows_of_drawing(drawing)])


def read_sum(skin, text):
    """The sum with exactly this text."""
    check_skin(skin)
    reader = Reader(text)
    some = {}
    last = ()
    while not reader.is_ended():
        reader.check(len(some) < MOST_IN_SUM)
        number = reader.read_number()
        reader.check(number != 0 and is_number_of_sum(number))
        reader.read_sign(" ")
        loop = reader.read_round(skin)
        reader.check(last < loop)
        reader.read_sign("\n")
        some[loop] = number
        last = loop
    return some


def _read_rounds(reader, skin):
    """Reads the row with the rounds of a drawing."""
    rounds = []
    left = MOST_TOGETHER
    while not rounds or reader.sign() == " ":
        if rounds:
            reader.read_sign(" ")
        elif reader.sign() == "\n":
            break
        reader.check(len(rounds) < MOST_ROUNDS)
        loop = reader.read_round(skin, left)
        left -= len(loop)
        rounds.append(loop)
    reader.read_sign("\n")
    return rounds


def _read_strand(reader):
    """Reads a strand."""
    index = reader.read_figures(1)
    reader.read_sign(".")
    return index, reader.read_figures(2)


def _read_row(reader, rounds, band):
    """Reads the row with the strands along a band."""
    wanted = strands_along(rounds, band)
    row = []
    while wanted and (not row or reader.sign() == " "):
        if row:
            reader.read_sign(" ")
        strand = _read_strand(reader)
        reader.check(strand in wanted and strand not in row)
        row.append(strand)
    reader.check(len(row) == len(wanted))
    reader.read_sign("\n")
    return row


def read_drawing(text):
    """The Drawing with exactly this text."""
    reader = Reader(text)
    skin = reader.read_skin()
    reader.read_sign("\n")
    rounds = _read_rounds(reader, skin)
    rows = [_read_row(reader, rounds, band) for band in range(skin.bands)]
    reader.check(reader.is_ended())
    return Drawing(skin, rounds, rows)
