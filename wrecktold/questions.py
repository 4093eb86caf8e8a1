"""Questions of rows by their readings: what follows what, how often something came, and what came first."""

from wrecktold.clocks import sent
from wrecktold.courses import courses_of
from wrecktold.errors import Refused
from wrecktold.happenings import time_of, variable
from wrecktold.setups import need_channel, readings_of
from wrecktold.words import has_parts, is_below, is_integer, is_sequence, need_number

ALWAYS = "always"
NEVER = "never"
OPEN = "open"
NOT = "not"


def has_mark_form(value):
    """Whether any value is a mark but for its channel: three integers."""
    return has_parts(value, 3) and all(is_integer(part) for part in value)


def mark_places(rows, mark):
    """The ascending places of a mark's rows; in this order they were sent in all courses."""
    channel, low, high = mark
    return tuple([place for place, value in readings_of(rows, channel) if low <= value <= high])


def _need_mark(told, mark):
    """The places of a mark's rows; any value that is no mark is refused."""
    if not has_mark_form(mark):
        raise Refused(mark)
    need_channel(told.setup, mark[0])
    return mark_places(told.rows, mark)


def marked(setup, rows, mark):
    """The ascending places of a mark's rows."""
    return _need_mark(courses_of(setup, rows), mark)


def follows(course, place, others, within):
    """Whether in a course one of other rows is sent from 1 to so many ticks behind a row."""
    return any(1 <= course[other][0] - course[place][0] <= within for other in others)


def _within(x, y, most):
    """The edge by which one time is at most so much behind another one."""
    return x, y, most


def _behind(x, y, least):
    """The edge by which one time is at least so much behind another one."""
    return y, x, -least


def _followed_course(told, place, others, within):
    """Some course in which one of other rows follows a row, `None` if there is none."""
    x = sent(place)
    for other in others:
        y = sent(other)
        met = told.some_with((_behind(x, y, 1), _within(x, y, within)))
        if met is not None:
            return met
    return None


def _bare_course(told, place, others, within):
    """Some course in which none of a mark's rows follows a row, `None` if there is none."""
    x = sent(place)
    # The mark's rows are sent in their order, so they part at one place: those
    # ahead of it not behind the row, the others too far behind it.
    for at in range(len(others) + 1):
        edges = [_within(x, sent(other), 0) for other in others[:at]]
        edges.extend([_behind(x, sent(other), within + 1) for other in others[at:]])
        met = told.some_with(edges)
        if met is not None:
            return met
    return None


def followed(setup, rows, place, mark, within):
    """("always",), ("never",) or ("open", course, other): whether a row is followed by one of a mark."""
    told = courses_of(setup, rows)
    if not is_below(place, len(told.rows)):
        raise Refused(place)
    others = _need_mark(told, mark)
    need_number(within)
    so = _followed_course(told, place, others, within)
    if so is None:
        return (NEVER,)
    bare = _bare_course(told, place, others, within)
    return (ALWAYS,) if bare is None else (OPEN, so, bare)


def each_followed(setup, rows, mark, other, within):
    """("always",), or ("not", place, course): whether each row of a mark is followed by one of the other."""
    told = courses_of(setup, rows)
    places = _need_mark(told, mark)
    others = _need_mark(told, other)
    need_number(within)
    for place in places:
        bare = _bare_course(told, place, others, within)
        if bare is not None:
            return NOT, place, bare
    return (ALWAYS,)


def count_in(course, others, one, other):
    """How many of some rows are sent from the one happening to the other, both times included."""
    first = time_of(course, one)
    last = time_of(course, other)
    return len([place for place in others if first <= course[place][0] <= last])


def _lot_edges(x, y, places, start, end):
    """The edges by which just the places from start up to end are sent from one time to another."""
    edges = [_behind(sent(place), x, 1) for place in places[:start]]
    for place in places[start:end]:
        edges.extend([_behind(x, sent(place), 0), _behind(sent(place), y, 0)])
    return edges + [_behind(y, sent(place), 1) for place in places[end:]]


def _course_with_many(told, x, y, places, many):
    """Some course in which just so many places are sent from one time to another, `None` if there is none."""
    # Where the other time is ahead of the one, none is between: those ahead of the
    # one are parted there from all others, which are behind the other one.
    for start in range(len(places) - many + 1):
        met = told.some_with(_lot_edges(x, y, places, start, start + many))
        if met is not None:
            return met
    return None


def counted(setup, rows, one, other, mark):
    """(number, course), ascending, of which in some course just so many of a mark's rows lie between."""
    told = courses_of(setup, rows)
    x = variable(told.rows, one)
    y = variable(told.rows, other)
    places = _need_mark(told, mark)
    found = [(many, _course_with_many(told, x, y, places, many)) for many in range(len(places) + 1)]
    return tuple([(many, met) for many, met in found if met is not None])


def first_of(setup, rows, marks):
    """(place, course), ascending, of the marks of which in some course no row of any is sent earlier."""
    told = courses_of(setup, rows)
    if not is_sequence(marks):
        raise Refused(marks)
    # A mark's first row is one row in all courses.
    firsts = [(at, _need_mark(told, mark)[:1]) for at, mark in enumerate(marks)]
    places = [place for _, first in firsts for place in first]
    found = []
    for at, first in firsts:
        for place in first:
            met = told.some_with([_behind(sent(place), sent(other), 0) for other in places])
            if met is not None:
                found.append((at, met))
    return tuple(found)
