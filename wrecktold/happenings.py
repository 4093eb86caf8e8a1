"""Happenings of rows: that a frame was sent, and that it was heard."""

from wrecktold.clocks import heard, sent
from wrecktold.errors import NoHappening
from wrecktold.words import has_parts, is_below

SENT = "sent"
HEARD = "heard"


def is_word(value):
    """Whether any value is the first part of a happening."""
    return isinstance(value, str) and value in (SENT, HEARD)


def need_happening(rows, value):
    """Any value that is a happening of the rows, as a tuple."""
    if not has_parts(value, 2) or not is_word(value[0]) or not is_below(value[1], len(rows)):
        raise NoHappening(value)
    return tuple(value)


def variable(rows, happening):
    """The number of the time of a happening."""
    word, place = need_happening(rows, happening)
    return sent(place) if word == SENT else heard(place)


def happenings(rows):
    """All happenings of the rows, by the numbers of their times."""
    return tuple([(word, place) for place in range(len(rows)) for word in (SENT, HEARD)])


def time_of(course, happening):
    """The time of a happening in a course."""
    word, place = need_happening(course, happening)
    return course[place][0 if word == SENT else 1]
