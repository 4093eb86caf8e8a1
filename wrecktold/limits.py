"""What a channel was between its readings, over all courses of rows."""

from wrecktold.clocks import course_holds, sent
from wrecktold.courses import courses_of
from wrecktold.errors import Refused
from wrecktold.numbers import rounded_up
from wrecktold.setups import need_channel, neighbours, readings_of
from wrecktold.tents import highest, lowest, many_above, path_at, path_holds
from wrecktold.words import has_parts, is_below, need_integer

PASSED = "passed"
KEPT = "kept"
OPEN = "open"


def _rated(setup, rows, channel):
    """All courses of rows; any value that is no channel with a rate is refused."""
    told = courses_of(setup, rows)
    need_channel(told.setup, channel)
    if told.setup[2][channel][1] is None:
        raise Refused(channel)
    return told


def _rate(told, channel):
    """By how much a channel goes up or down in a tick at most."""
    return told.setup[2][channel][1]


def _ticks(told, i, j):
    """(least, greatest) of the ticks between the sending of two rows, `None` for no bound."""
    return told.span(sent(i), sent(j))


def _gaps(told, channel):
    """As `gaps`, of courses."""
    pairs = neighbours(readings_of(told.rows, channel))
    return tuple([(i, j, was, now) + _ticks(told, i, j) for (i, was), (j, now) in pairs])


def gaps(setup, rows, channel):
    """By neighbours (place, place, value, value, least, greatest), the latter two in ticks."""
    return _gaps(_rated(setup, rows, channel), channel)


def _reach(rate, gap):
    """(low, high) of the values between neighbours, `None` for no bound."""
    _, _, was, now, _, greatest = gap
    if greatest is None:
        return None, None
    # With more ticks there is never less between, so the longest time tells.
    tent = (was, now, rate, greatest)
    return lowest(tent), highest(tent)


def reach(setup, rows, channel):
    """By neighbours (place, place, low, high): the least and the greatest value in their stories."""
    told = _rated(setup, rows, channel)
    rate = _rate(told, channel)
    return tuple([gap[:2] + _reach(rate, gap) for gap in _gaps(told, channel)])


def _word(rate, gap, limit):
    """How a limit stands between neighbours."""
    _, _, was, now, _, _ = gap
    if max(was, now) > limit:
        return PASSED
    _, high = _reach(rate, gap)
    return KEPT if high is not None and high <= limit else OPEN


def limit_words(setup, rows, channel, limit):
    """By neighbours (place, place, how the limit stands between them)."""
    told = _rated(setup, rows, channel)
    need_integer(limit)
    rate = _rate(told, channel)
    return tuple([gap[:2] + (_word(rate, gap, limit),) for gap in _gaps(told, channel)])


def limit_word(setup, rows, channel, limit):
    """How a limit stands over all rows."""
    told = _rated(setup, rows, channel)
    need_integer(limit)
    # A reading without neighbours can be above it, too.
    if any(value > limit for _, value in readings_of(told.rows, channel)):
        return PASSED
    rate = _rate(told, channel)
    return KEPT if all(_word(rate, gap, limit) == KEPT for gap in _gaps(told, channel)) else OPEN


def _gap_at(told, channel, at):
    """The neighbours of a number; any value that is none is refused."""
    found = _gaps(told, channel)
    if not is_below(at, len(found)):
        raise Refused(at)
    return found[at]


def story_holds(setup, rows, channel, at, value):
    """Whether any value is a story of neighbours: a course that holds, and a path."""
    told = _rated(setup, rows, channel)
    i, j, was, now, _, _ = _gap_at(told, channel, at)
    if not has_parts(value, 2) or not course_holds(told.setup, told.rows, value[0]):
        return False
    ticks = value[0][j][0] - value[0][i][0]
    return path_holds((was, now, _rate(told, channel), ticks), value[1])


def story_with(setup, rows, channel, at, value):
    """Some story of neighbours with this value at some tick; `None` if there is none."""
    told = _rated(setup, rows, channel)
    i, j, was, now, least, _ = _gap_at(told, channel, at)
    need_integer(value)
    rate = _rate(told, channel)
    # As fast as can be there, and on to the other reading: if the time is longer, the rest is behind.
    tick = rounded_up(abs(value - was), rate)
    ticks = max(least, tick + rounded_up(abs(now - value), rate))
    met = told.some_at(sent(i), sent(j), ticks)
    return None if met is None else (met, path_at((was, now, rate, ticks), tick, value))


def _above(rate, gap, limit):
    """(least, most) of the ticks at which stories between neighbours are above a limit."""
    _, _, was, now, least, greatest = gap
    fewest, _ = many_above((was, now, rate, least), limit)
    if greatest is None:
        return fewest, None
    _, most = many_above((was, now, rate, greatest), limit)
    return fewest, most


def above(setup, rows, channel, limit):
    """By neighbours (place, place, least, most): at how many ticks stories are above the limit."""
    told = _rated(setup, rows, channel)
    need_integer(limit)
    rate = _rate(told, channel)
    return tuple([gap[:2] + _above(rate, gap, limit) for gap in _gaps(told, channel)])


def _sure_runs(rate, found, limit):
    """(first place, last place) of the longest rows of neighbours that stay above a limit in all stories."""
    runs = []
    for gap in found:
        low, _ = _reach(rate, gap)
        if low is not None and low > limit:
            # Neighbours one behind another share a row.
            first = runs.pop()[0] if runs and runs[-1][1] == gap[0] else gap[0]
            runs.append((first, gap[1]))
    return runs


def surely_above(setup, rows, channel, limit):
    """(first place, last place, least ticks) of the longest rows of neighbours that stay above the limit."""
    told = _rated(setup, rows, channel)
    need_integer(limit)
    runs = _sure_runs(_rate(told, channel), _gaps(told, channel), limit)
    return tuple([(first, last, _ticks(told, first, last)[0]) for first, last in runs])
