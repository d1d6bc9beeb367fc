"""Sequences of deeds: which of them may change places."""

from tautrounds.deeds import Course, check_deeds
from tautrounds.errors import BadDeed, BadNumber
from tautrounds.given import is_within
from tautrounds.skins import check_skin


def _checked_course(skin, deeds, least, most):
    """The course of deeds; BadDeed unless there are from least to most of them, which can be done."""
    check_deeds(deeds, least)
    if len(deeds) > most:
        raise BadDeed("fewer deeds are wanted")
    course = Course(skin, deeds)
    if course.stand(tuple(range(len(deeds)))) is None:
        raise BadDeed("deeds that can be done are wanted")
    return course


def _exchanged_at(places, at):
    """The places with those at at and behind it in the other sequence."""
    return places[:at] + (places[at + 1], places[at]) + places[at + 2:]


def _may_change_at(course, places, at):
    """Whether the two deeds at at and behind it lead to an equal stand in the other sequence, too."""
    return course.lead_alike(places[:at + 2], _exchanged_at(places, at)[:at + 2])


def may_change(skin, deeds, at):
    """Whether the deeds at at and at + 1 can be done in the other sequence, too, and lead to an equal live skin."""
    check_skin(skin)
    course = _checked_course(skin, deeds, 2, 12)
    if not is_within(at, 0, len(deeds) - 2):
        raise BadNumber("at")
    return _may_change_at(course, tuple(range(len(deeds))), at)


def orders(skin, deeds):
    """The ascending list of all sequences to which such exchanges lead, one after the other."""
    check_skin(skin)
    course = _checked_course(skin, deeds, 1, 7)
    start = tuple(range(len(deeds)))
    found = {start: True}
    left = [start]
    while left:
        places = left.pop()
        for at in range(len(places) - 1):
            other = _exchanged_at(places, at)
            if other not in found and _may_change_at(course, places, at):
                found[other] = True
                left.append(other)
    return sorted(found)
