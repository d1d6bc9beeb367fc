"""All errors of the package, each directly below RoundError: some are made of a part, which may be any value."""


class RoundError(ValueError):
    """What all errors of the package are."""


class BadBridge(RoundError):
    """This is no bridge of the skin."""


class BadBundle(RoundError):
    """A bundle, or its numbers, cannot be so."""

    def __init__(self, part):
        self.part = part


class BadDeed(RoundError):
    """This is no deed."""


class BadDrawing(RoundError):
    """This is no drawing, or none of the kind that is wanted."""

    def __init__(self, part):
        self.part = part


class BadFan(RoundError):
    """This is no fan, or no list of bridges that a fan can have."""

    def __init__(self, part):
        self.part = part


class BadImages(RoundError):
    """These are no images."""


class BadLive(RoundError):
    """This is no live skin, or none that can be so."""

    def __init__(self, part):
        self.part = part


class BadName(RoundError):
    """This is no name, or none that may be given here."""


class BadNumber(RoundError):
    """A number is missing, or out of its bounds; part is the name of it."""

    def __init__(self, part):
        self.part = part


class BadRound(RoundError):
    """This is no round of the skin."""


class BadRounds(RoundError):
    """This is no list of rounds; part is "list" or the place of what is no round."""

    def __init__(self, part):
        self.part = part


class BadSkin(RoundError):
    """This is no skin (part is None), or no row of one."""

    def __init__(self, part):
        self.part = part


class BadStrand(RoundError):
    """These are no strands, or none along one band."""


class BadSum(RoundError):
    """This is no sum of rounds."""


class BadText(RoundError):
    """The text cannot be read from this place on."""

    def __init__(self, at):
        self.at = at


class BadWord(RoundError):
    """This is no word of the skin."""


class NoMark(RoundError):
    """There is no mark of this name."""

    def __init__(self, name):
        self.name = name


class NotNow(RoundError):
    """This cannot be done with what there is now."""


class NotSimple(RoundError):
    """What crosses itself, or another, is not wanted here."""


class TooMany(RoundError):
    """There are more than so many."""

    def __init__(self, most):
        self.most = most
