"""The unknown times of rows: the bounds between them, and the courses that keep these."""

from wrecktold.errors import Refused
from wrecktold.numbers import misfits, rounded_up
from wrecktold.setups import checked, neighbours, readings_of, rows_of
from wrecktold.words import has_parts, is_integer


def sent(place):
    """The number of the time at which the frame of a row was sent."""
    return 2 * place


def heard(place):
    """The number of the time at which the frame of a row was heard."""
    return 2 * place + 1


# A tie is (words, x, y, least, greatest): time y is so much behind time x, the
# greatest being `None` where there is no bound.


def _way_tie(setup, row, place):
    """How far a row's hearing is behind its sending."""
    source = setup[0][row[2]]
    return ("way", place), sent(place), heard(place), source[2], source[3]


def _source_tie(setup, rows, i, j):
    """How far one row of a source is sent behind another one."""
    low, high, _, _, gap, _ = setup[0][rows[i][2]]
    if rows[i][3] == rows[j][3]:
        stamps = rows[j][5] - rows[i][5]
        return ("clock", i, j), sent(i), sent(j), low * stamps, high * stamps
    return ("boot", i, j), sent(i), sent(j), low * gap, None


def _recorder_tie(setup, rows, i, j):
    """How far one row is heard behind another one."""
    low, high = setup[1]
    if rows[i][0] == rows[j][0]:
        stamps = rows[j][1] - rows[i][1]
        return ("recorder", i, j), heard(i), heard(j), low * stamps, high * stamps
    return ("start", i, j), heard(i), heard(j), 1, None


def _rate_tie(rate, channel, one, other):
    """How far one reading of a channel is sent behind another one, both (place, value)."""
    i, was = one
    j, now = other
    return ("rate", i, j, channel), sent(i), sent(j), rounded_up(abs(now - was), rate), None


def way_ties(setup, rows):
    """The ties of rows' ways."""
    return [_way_tie(setup, row, place) for place, row in enumerate(rows)]


def source_ties(setup, rows, pairs_of):
    """The ties of sources' clocks, of the pairs that the function tells of each one's places."""
    pairs = [pair for source in range(len(setup[0])) for pair in pairs_of(rows_of(rows, source))]
    return [_source_tie(setup, rows, i, j) for i, j in pairs]


def recorder_ties(setup, rows, pairs_of):
    """The ties of the recorder's clock, of the pairs that the function tells of all places."""
    return [_recorder_tie(setup, rows, i, j) for i, j in pairs_of(tuple(range(len(rows))))]


def rate_ties(setup, rows, pairs_of):
    """The ties of channels' rates, of the pairs that the function tells of each one's readings."""
    ties = []
    for channel, (_, rate) in enumerate(setup[2]):
        if rate is not None:
            pairs = pairs_of(readings_of(rows, channel))
            ties.extend([_rate_tie(rate, channel, one, other) for one, other in pairs])
    return ties


def _ties(setup, rows, pairs_of):
    """All ties of rows, and of the pairs that the function tells of each places or readings."""
    ties = way_ties(setup, rows) + source_ties(setup, rows, pairs_of)
    return ties + recorder_ties(setup, rows, pairs_of) + rate_ties(setup, rows, pairs_of)


def _bound(tie):
    """A tie as words and edges."""
    words, x, y, least, greatest = tie
    back = (y, x, -least)
    return words, ((back,) if greatest is None else ((x, y, greatest), back))


def edges_of(ties):
    """The edges of ties, tie by tie."""
    return [edge for tie in ties for edge in _bound(tie)[1]]


def bounds_of(setup, rows):
    """(words, edges) by bound, of rows and of neighbours."""
    setup, rows = checked(setup, rows)
    return tuple([_bound(tie) for tie in _ties(setup, rows, neighbours)])


def system_of(setup, rows):
    """The system of all times of rows and all bounds between them."""
    bounds = bounds_of(setup, rows)
    return 2 * len(rows), tuple([edge for _, edges in bounds for edge in edges])


def edge_words(setup, rows):
    """By edge of the system the words of its bound."""
    return tuple([words for words, edges in bounds_of(setup, rows) for _ in edges])


def _all_pairs(parts):
    """Pairs of any two of a sequence, the one that stands ahead first."""
    return [(one, other) for at, one in enumerate(parts) for other in parts[at + 1:]]


def _is_pair(value):
    """Whether any value is a pair of integers."""
    return has_parts(value, 2) and is_integer(value[0]) and is_integer(value[1])


def _is_course(rows, value):
    """Whether any value tells a pair of integers by row."""
    return has_parts(value, len(rows)) and all(_is_pair(part) for part in value)


def _is_broken(times, tie):
    """Whether times by number do not keep a tie."""
    _, x, y, least, greatest = tie
    ticks = times[y] - times[x]
    return ticks < least or (greatest is not None and ticks > greatest)


def _faults(setup, rows, course):
    """As `course_faults`, of what is known to be a setup, rows, and a course of these."""
    times = [time for pair in course for time in pair]
    faults = [("numbers", i, j) for i, j in misfits(setup, rows, _all_pairs)]
    for tie in _ties(setup, rows, _all_pairs):
        if _is_broken(times, tie):
            # Of a way the row stands twice, of a rate the channel is not told.
            faults.append((tie[0] + tie[0][1:])[:3])
    return tuple(sorted(set(faults)))


def course_faults(setup, rows, course):
    """Ascending (word, i, j) of all that a course breaks, between any two rows."""
    setup, rows = checked(setup, rows)
    if not _is_course(rows, course):
        raise Refused(course)
    return _faults(setup, rows, course)


def course_holds(setup, rows, value):
    """Whether any value is a course of rows that breaks nothing."""
    setup, rows = checked(setup, rows)
    return _is_course(rows, value) and not _faults(setup, rows, value)
