"""Merges: two people went on from one live skin."""

from tautrounds.deeds import Course, check_deeds, told_deed
from tautrounds.errors import BadDeed
from tautrounds.skins import check_skin

MOST_DEEDS = 12


class Fork:
    """The deeds of base, and of two lists that go on from there, as a course."""

    def __init__(self, skin, base, one, other):
        for deeds in (base, one, other):
            check_deeds(deeds, 0)
            if len(deeds) > MOST_DEEDS:
                raise BadDeed("at most 12 deeds are wanted")
        self.deeds = [told for deeds in (base, one, other) for told in deeds]
        self.course = Course(skin, self.deeds)
        places = tuple(range(len(self.deeds)))
        self.base = places[:len(base)]
        self.one = places[len(base):len(base) + len(one)]
        self.other = places[len(base) + len(one):]
        if self.course.stand(self.base + self.one) is None or self.course.stand(self.base + self.other) is None:
            raise BadDeed("deeds that can be done are wanted")

    def is_merged(self, many, number):
        """Whether the first so many deeds of one, and so many of other, may be done in either sequence."""
        one, other = self.one[:many], self.other[:number]
        return self.course.lead_alike(self.base + one + other, self.base + other + one)


def merged(skin, base, one, other):
    """The list of base, one, other, if other may be done ahead of one, too, and leads to the same; None otherwise."""
    check_skin(skin)
    fork = Fork(skin, base, one, other)
    if not fork.is_merged(len(one), len(other)):
        return None
    return [told_deed(deed) for deed in fork.deeds]


def clash(skin, base, one, other):
    """The pair of how many deeds of one and of other are not merged, as few as can be; None if all are merged."""
    check_skin(skin)
    fork = Fork(skin, base, one, other)
    if fork.is_merged(len(one), len(other)):
        return None
    pairs = [(many, number) for many in range(len(one) + 1) for number in range(len(other) + 1)]
    for _, many, number in sorted([(many + number, many, number) for many, number in pairs]):
        if not fork.is_merged(many, number):
            return many, number
    return None
