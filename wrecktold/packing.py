"""Rows as octets: their form, how it is read again, and rows that fill a block."""

from wrecktold.errors import Broken, Refused
from wrecktold.forms import reader_at
from wrecktold.setups import GREATEST_VALUE, LAST_STAMP, check_row, check_setup
from wrecktold.words import is_number

# How many channels one octet tells of.
LOT = 8

# The octets of each row: both boots and stamps, the source and the number.
HEAD_OCTETS = 10
READING_OCTETS = 3


def _channels_of(setup, source):
    """The ascending channels that a source reads."""
    return [channel for channel, (by, _) in enumerate(setup[2]) if by == source]


def _lots(channels):
    """Channels by eight; the last of these may be fewer."""
    return [channels[start:start + LOT] for start in range(0, len(channels), LOT)]


def _three(number):
    """A number as three octets, the greatest part first."""
    return [number // 65536, number // 256 % 256, number % 256]


def _told_by(lot, readings):
    """The octet that tells which channels of a lot have a reading."""
    read = dict(readings)
    return sum([1 << at for at, channel in enumerate(lot) if channel in read])


def row_octets(setup, row):
    """The form of a row."""
    rboot, rstamp, source, boot, number, stamp, readings = check_row(setup, row)
    out = [rboot, *_three(rstamp), source, boot, number, *_three(stamp)]
    out.extend([_told_by(lot, readings) for lot in _lots(_channels_of(setup, source))])
    for _, value in readings:
        out.extend(_three(value + GREATEST_VALUE))
    return tuple(out)


def row_length(setup, row):
    """How many octets the form of a row has."""
    return len(row_octets(setup, row))


def _longest(channels):
    """How many octets a row has in which all of these channels, and no others, have a reading."""
    return HEAD_OCTETS + len(_lots(channels)) + READING_OCTETS * len(channels)


def most_length(setup):
    """How many octets the form of a row has at most, of all rows of the setup."""
    setup = check_setup(setup)
    return max([_longest(_channels_of(setup, source)) for source in range(len(setup[0]))])


def _take_three(reader, most):
    """A number of three octets, at most the told one."""
    number = 0
    for top in (most // 65536, most // 256, most):
        # What stands behind can be 0, so it is enough that the part is not above the most's.
        number = number * 256
        number += reader.take(0, min(255, top - number))
    return number


def _take_lot(reader, lot):
    """The channels of a lot that have a reading."""
    octet = reader.take(0, (1 << len(lot)) - 1)
    return [channel for at, channel in enumerate(lot) if (octet >> at) % 2 == 1]


def _take_readings(reader, channels):
    """The readings of a source with these channels."""
    read = [channel for lot in _lots(channels) for channel in _take_lot(reader, lot)]
    return tuple([(channel, _take_three(reader, 2 * GREATEST_VALUE) - GREATEST_VALUE) for channel in read])


def _take_row(reader, setup):
    """A row of the setup."""
    rboot = reader.take(0, 255)
    rstamp = _take_three(reader, LAST_STAMP)
    source = reader.take(0, len(setup[0]) - 1)
    boot = reader.take(0, 255)
    number = reader.take(0, 255)
    stamp = _take_three(reader, LAST_STAMP)
    return rboot, rstamp, source, boot, number, stamp, _take_readings(reader, _channels_of(setup, source))


def row_at(setup, octets, at):
    """The row whose form begins at this place, and the place behind it."""
    setup = check_setup(setup)
    reader = reader_at(octets, at)
    row = _take_row(reader, setup)
    return row, reader.place


def packed(setup, row, many):
    """The form of a row with octets 0 behind it, so many in all."""
    form = row_octets(setup, row)
    if not is_number(many) or many < len(form):
        raise Refused(many)
    return form + (0,) * (many - len(form))


def unpacked(setup, octets):
    """The row whose form the octets are, with octets 0 alone behind it."""
    row, behind = row_at(setup, octets, 0)
    for place in range(behind, len(octets)):
        if octets[place] != 0:
            raise Broken(place)
    return row
