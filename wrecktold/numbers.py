"""Frames' short numbers: how many frames were sent between two that are told."""

from wrecktold.errors import Refused
from wrecktold.setups import LAST_STAMP, NUMBERS, checked, is_source, neighbours, rows_of
from wrecktold.words import has_parts, is_below, is_integer, is_sequence, is_within


def _is_mark(value):
    """Whether any value is a mark: a frame's number and stamp."""
    return has_parts(value, 2) and is_below(value[0], NUMBERS) and is_within(value[1], 0, LAST_STAMP)


def _need_source(value):
    """Refuses any value that is no source."""
    if not is_source(value):
        raise Refused(value)


def _need_mark(value):
    """Refuses any value that is no mark."""
    if not _is_mark(value):
        raise Refused(value)


def rounded_up(many, by):
    """The quotient, rounded up."""
    return -(-many // by)


def _first_count(source, one, other):
    """The least number of frames from mark to mark that leaves the right rest and is not too few."""
    pause = source[5]
    least = rounded_up(other[1] - one[1], pause)
    return least + (other[0] - one[0] - least) % NUMBERS


def _last_count(source, one, other):
    """How many frames at most have their gaps between two marks, whatever their numbers."""
    gap = source[4]
    return (other[1] - one[1]) // gap


def _counts(source, one, other):
    """As `counts`, of what is known to be a source and marks."""
    return tuple(range(_first_count(source, one, other), _last_count(source, one, other) + 1, NUMBERS))


def numbers_fit(source, one, other):
    """Whether `counts` tells one or more, of what is known to be a source and marks."""
    return _first_count(source, one, other) <= _last_count(source, one, other)


def mark_of(row):
    """The mark of a row's frame."""
    return row[4], row[5]


def counts(source, one, other):
    """How many frames on the other mark's frame can be, ascending, both being of one boot."""
    _need_source(source)
    _need_mark(one)
    _need_mark(other)
    if other[1] <= one[1]:
        raise Refused(other)
    return _counts(source, one, other)


def ahead_counts(source, one):
    """How many frames of its boot can have been sent ahead of a mark's frame, ascending."""
    _need_source(source)
    _need_mark(one)
    return tuple(range(one[0], one[1] // source[4] + 1, NUMBERS))


def doubt_span(source):
    """The least number of stamps between two marks for which there can be two counts, or `None`."""
    _need_source(source)
    gap, pause = source[4], source[5]
    if gap == pause:
        return None
    # Two counts are 256 apart or more: d frames at their slowest must last as
    # long as d and 256 at their fastest.
    few = rounded_up(NUMBERS * gap, pause - gap)
    stamps = gap * (few + NUMBERS)
    return stamps if stamps <= LAST_STAMP else None


def _follow(source, one, other):
    """Whether one mark is that of the next frame behind the other."""
    return other[0] == (one[0] + 1) % NUMBERS and source[4] <= other[1] - one[1] <= source[5]


def run_holds(source, value):
    """Whether any value is marks of frames that were sent one behind another."""
    _need_source(source)
    if not is_sequence(value) or not all(_is_mark(mark) for mark in value):
        return False
    return all([_follow(source, one, other) for one, other in zip(value, value[1:])])


def run_between(source, one, other, count):
    """Some run from the one mark to the other, so many frames on."""
    told = counts(source, one, other)
    if not is_integer(count) or count not in told:
        raise Refused(count)
    stamps = other[1] - one[1]
    return tuple([((one[0] + at) % NUMBERS, one[1] + stamps * at // count) for at in range(count + 1)])


def run_to(source, one, count):
    """Some run from number 0 to the mark, so many frames being ahead of it."""
    told = ahead_counts(source, one)
    if not is_integer(count) or count not in told:
        raise Refused(count)
    return tuple([(at % NUMBERS, one[1] - source[4] * (count - at)) for at in range(count + 1)])


def _missing_of(setup, rows, source):
    """(place, place, few) of a source's neighbours of one boot."""
    found = []
    for one, other in neighbours(rows_of(rows, source)):
        if rows[one][3] == rows[other][3]:
            told = _counts(setup[0][source], mark_of(rows[one]), mark_of(rows[other]))
            found.append((one, other, tuple([count - 1 for count in told])))
    return found


def missing(setup, rows):
    """(place, place, few) of all neighbours of one boot: how many frames can be missing between them."""
    setup, rows = checked(setup, rows)
    return tuple([pair for source in range(len(setup[0])) for pair in _missing_of(setup, rows, source)])


def _misfit(source, row, other):
    """Whether two rows of a source are of one boot, and their numbers don't fit."""
    return row[3] == other[3] and not numbers_fit(source, mark_of(row), mark_of(other))


def misfits(setup, rows, pairs_of):
    """By source, of the pairs that the function tells of its places, those whose numbers don't fit."""
    pairs = []
    for number, source in enumerate(setup[0]):
        told = pairs_of(rows_of(rows, number))
        pairs.extend([(i, j) for i, j in told if _misfit(source, rows[i], rows[j])])
    return pairs


def false_pair(setup, rows):
    """The first two neighbours of one boot whose numbers don't fit, `None` if all do."""
    setup, rows = checked(setup, rows)
    false = misfits(setup, rows, neighbours)
    return false[0] if false else None


def missing_sums(setup, rows, source):
    """How many frames of a source can be missing between neighbours of one boot in all, ascending."""
    setup, rows = checked(setup, rows)
    if not is_below(source, len(setup[0])):
        raise Refused(source)
    lots = [few for _, _, few in _missing_of(setup, rows, source)]
    if () in lots:
        return ()
    # Each lot goes by 256 from its least to its greatest, so the sums do, too.
    least = sum([few[0] for few in lots])
    return tuple(range(least, sum([few[-1] for few in lots]) + 1, NUMBERS))
