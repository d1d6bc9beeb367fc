"""A desk: a live skin that is told what to do, and asked, line by line."""

from tautrounds.brackets import bracket_of_rounds
from tautrounds.deeds import is_name
from tautrounds.drawingtexts import rows_of_drawing, rows_of_sum
from tautrounds.errors import RoundError
from tautrounds.live import Live
from tautrounds.logs import log_rows, read_step
from tautrounds.pieces import fills
from tautrounds.readers import signs_of
from tautrounds.simple import is_simple
from tautrounds.skins import check_skin, genus, rims

OK = "ok"
WHAT = "what"
NOTHING = "-"
BETWEEN_ROWS = " | "


def _told(text):
    """The text, or what is told of nothing."""
    return text if text else NOTHING


def _truth(is_so):
    """What is told as a truth."""
    return "yes" if is_so else "no"


def _undo(live, _):
    """The last step is taken back."""
    live.undo()
    return OK


def _redo(live, _):
    """The step taken back last is done again."""
    live.redo()
    return OK


def _mark(live, names):
    """The place now has this mark."""
    live.mark(names[0])
    return OK


def _to(live, names):
    """Steps are taken back, or done again, as far as the mark."""
    live.to(names[0])
    return OK


def _names(live, _):
    """All names."""
    return _told(" ".join(live.names))


def _skin(live, _):
    """The skin."""
    return signs_of(live.skin.row)


def _round(live, names):
    """The round of a name."""
    return signs_of(live.loop(names[0]))


def _number(live, names):
    """How often a round crosses itself at least."""
    return str(live.number(names[0]))


def _number_of_two(live, names):
    """How often two rounds cross at least."""
    return str(live.number(names[0], names[1]))


def _fewest(live, _):
    """How many crossings all rounds have at least."""
    return str(live.fewest())


def _crossed(live, _):
    """How many crossings the drawing has."""
    return str(live.crossed())


def _over(live, _):
    """How many crossings the drawing has beyond the fewest."""
    return str(live.over())


def _genus(live, _):
    """The genus."""
    return str(genus(live.skin))


def _rims(live, _):
    """All rims."""
    return " ".join([signs_of(rim) for rim in rims(live.skin)])


def _simple(live, names):
    """Whether a round need not cross itself."""
    return _truth(is_simple(live.skin, live.loop(names[0])))


def _fills(live, _):
    """Whether the rounds fill the skin."""
    return _truth(fills(live.skin, live.drawing.rounds))


def _bracket(live, names):
    """The bracket of two rounds, however long."""
    some = bracket_of_rounds(live.skin, live.loop(names[0]), live.loop(names[1]))
    return _told(BETWEEN_ROWS.join(rows_of_sum(some)))


def _drawing(live, _):
    """The drawing, row by row."""
    return BETWEEN_ROWS.join(rows_of_drawing(live.drawing))


def _log(live, _):
    """The log, row by row."""
    return BETWEEN_ROWS.join(log_rows(live))


# What is asked, by its word and how many names stand behind it.
ACTS = {
    ("undo", 0): _undo, ("redo", 0): _redo, ("mark", 1): _mark, ("to", 1): _to, ("names", 0): _names,
    ("skin", 0): _skin, ("round", 1): _round, ("number", 1): _number, ("number", 2): _number_of_two,
    ("fewest", 0): _fewest, ("crossed", 0): _crossed, ("over", 0): _over, ("genus", 0): _genus, ("rims", 0): _rims,
    ("simple", 1): _simple, ("fills", 0): _fills, ("bracket", 2): _bracket, ("drawing", 0): _drawing, ("log", 0): _log,
}


def _answered(live, line):
    """What the line is answered, where nothing is refused."""
    deeds = read_step(line)
    if deeds is not None:
        live.do(deeds)
        return OK
    words = line.split(" ")
    key, names = (words[0], len(words) - 1), words[1:]
    if key not in ACTS or not all([is_name(name) for name in names]):
        return WHAT
    act = ACTS[key]
    return act(live, names)


class Desk:
    """A live skin behind lines and answers."""

    def __init__(self, skin):
        check_skin(skin)
        self.live = Live(skin)

    def say(self, line):
        """The answer to a line, for any value; what is refused changes nothing."""
        if type(line) is not str:
            return WHAT
        try:
            return _answered(self.live, line)
        except RoundError as error:
            return "no " + type(error).__name__.lower()
