"""Setups of sources, a recorder and channels; the frames and rows that are told by them."""

from wrecktold.errors import BadFrame, BadRows, BadSetup, NoChannel
from wrecktold.words import has_parts, is_below, is_sequence, is_within

MOST_TICKS = 100
MOST_WAY = 1000
MOST_STAMPS = 1000
MOST_RATE = 1000
MOST_SOURCES = 8
MOST_CHANNELS = 16
MOST_ROWS = 200
BOOTS = 256
NUMBERS = 256
LAST_STAMP = 1000000
GREATEST_VALUE = 1000000

# A row is a recorder's boot and stamp, then a frame.
FRAME_PARTS = 5
ROW_PARTS = 7


def _is_range(low, high, least, most):
    """Whether two values are integers from the least to the most, the first not the greater one."""
    return is_within(low, least, most) and is_within(high, low, most)


def is_source(value):
    """Whether any value is a source."""
    if not has_parts(value, 6):
        return False
    low, high, least, most, gap, pause = value
    if not _is_range(low, high, 1, MOST_TICKS) or not _is_range(least, most, 0, MOST_WAY):
        return False
    return _is_range(gap, pause, 1, MOST_STAMPS) and low * gap > most - least


def _are_sources(value):
    """Whether any value is the sources of a setup."""
    if not is_sequence(value) or not 1 <= len(value) <= MOST_SOURCES:
        return False
    return all(is_source(part) for part in value)


def is_recorder(value):
    """Whether any value is the clock of a recorder."""
    return has_parts(value, 2) and _is_range(value[0], value[1], 1, MOST_TICKS)


def _is_channel(value, sources):
    """Whether any value is a channel that one of so many sources reads."""
    if not has_parts(value, 2) or not is_below(value[0], sources):
        return False
    return value[1] is None or is_within(value[1], 1, MOST_RATE)


def _are_channels(value, sources):
    """Whether any value is the channels of a setup with so many sources."""
    if not is_sequence(value) or not 1 <= len(value) <= MOST_CHANNELS:
        return False
    return all(_is_channel(part, sources) for part in value)


def _tuples(rows):
    """A sequence of sequences as tuples."""
    return tuple([tuple(row) for row in rows])


def check_setup(value):
    """Any value that is a setup, as tuples."""
    if not has_parts(value, 3):
        raise BadSetup(-1)
    if not _are_sources(value[0]):
        raise BadSetup(0)
    if not is_recorder(value[1]):
        raise BadSetup(1)
    if not _are_channels(value[2], len(value[0])):
        raise BadSetup(2)
    return _tuples(value[0]), tuple(value[1]), _tuples(value[2])


def need_channel(setup, value):
    """Any value that is the number of a channel."""
    if not is_below(value, len(check_setup(setup)[2])):
        raise NoChannel(value)
    return value


def _is_reading(setup, source, value):
    """Whether any value is a reading of one of the source's channels."""
    if not has_parts(value, 2) or not is_below(value[0], len(setup[2])):
        return False
    return setup[2][value[0]][0] == source and is_within(value[1], -GREATEST_VALUE, GREATEST_VALUE)


def _are_readings(setup, source, value):
    """Whether any value is readings of the source, their channels ascending."""
    if not is_sequence(value) or not all(_is_reading(setup, source, part) for part in value):
        return False
    return all([one[0] < other[0] for one, other in zip(value, value[1:])])


def _frame_fault(setup, parts):
    """The first of a frame's five parts that is not so, `None` if all are."""
    source, boot, number, stamp, readings = parts
    if not is_below(source, len(setup[0])):
        return 0
    if not is_below(boot, BOOTS):
        return 1
    if not is_below(number, NUMBERS):
        return 2
    if not is_within(stamp, 0, LAST_STAMP):
        return 3
    return None if _are_readings(setup, source, readings) else 4


def _row_fault(setup, value):
    """-1 for no sequence of seven, else the first of a row's parts that is not so, else `None`."""
    if not has_parts(value, ROW_PARTS):
        return -1
    if not is_below(value[0], BOOTS):
        return 0
    if not is_within(value[1], 0, LAST_STAMP):
        return 1
    at = _frame_fault(setup, value[2:])
    return None if at is None else at + 2


def _with_readings(value):
    """A frame or a row as tuples: its last part is the readings."""
    return tuple(value[:-1]) + (_tuples(value[-1]),)


def check_frame(setup, value):
    """Any value that is a frame of the setup, as tuples."""
    setup = check_setup(setup)
    at = _frame_fault(setup, value) if has_parts(value, FRAME_PARTS) else -1
    if at is not None:
        raise BadFrame(at)
    return _with_readings(value)


def check_row(setup, value):
    """Any value that is a row of the setup, as tuples."""
    at = _row_fault(check_setup(setup), value)
    if at is not None:
        raise BadFrame(at)
    return _with_readings(value)


def check_rows(setup, value):
    """Any value that is rows of the setup as they were heard, as tuples."""
    setup = check_setup(setup)
    if not is_sequence(value):
        raise BadRows(-1)
    heard = (0, 0)
    sent = {}
    for at, row in enumerate(value):
        if _row_fault(setup, row) is not None or (row[0], row[1]) < heard:
            raise BadRows(at)
        source = row[2]
        if source in sent and (row[3], row[5]) <= sent[source]:
            raise BadRows(at)
        heard = (row[0], row[1])
        sent[source] = (row[3], row[5])
    if len(value) > MOST_ROWS:
        raise BadRows(-1)
    return tuple([_with_readings(row) for row in value])


def checked(setup, rows):
    """A setup and rows of it, as tuples."""
    setup = check_setup(setup)
    return setup, check_rows(setup, rows)


def rows_of(rows, source):
    """The ascending places of a source's rows."""
    return tuple([place for place, row in enumerate(rows) if row[2] == source])


def readings_of(rows, channel):
    """Ascending (place, value) of all readings of a channel."""
    return tuple([(place, value) for place, row in enumerate(rows) for told, value in row[6] if told == channel])


def neighbours(places):
    """Pairs of those that stand side by side."""
    return tuple(zip(places, places[1:]))
