"""How many rows can come in how many ticks, and how many last rows are to be kept for some ticks."""

from wrecktold.errors import Refused
from wrecktold.setups import MOST_ROWS, check_setup
from wrecktold.words import need_number, need_within


def _budgeted(setup):
    """A setup as tuples; it is refused if its recorder's stamps can't tell each tick."""
    told = check_setup(setup)
    if told[1][0] != 1:
        raise Refused(setup)
    return told


def _rows_within(source, ticks):
    """How many frames of a source can be heard in so many ticks."""
    low, _, least, most, gap, _ = source
    # The first one is as late as can be, the last one as early.
    return (ticks + most - least) // (low * gap) + 1


def _most_rows(setup, ticks):
    """As `most_rows`, of what is known to be a setup and ticks."""
    return sum([_rows_within(source, ticks) for source in setup[0]])


def most_rows(setup, ticks):
    """The greatest number of rows that can be heard in so many ticks."""
    setup = _budgeted(setup)
    need_number(ticks)
    return _most_rows(setup, ticks)


def _least_ticks(setup, many):
    """As `least_ticks`, of what is known to be a setup and a number of rows."""
    low, _, _, _, gap, _ = setup[0][0]
    # In so many ticks the first source alone can send them all.
    least = 0
    most = (many - 1) * low * gap
    while least < most:
        middle = (least + most) // 2
        if _most_rows(setup, middle) >= many:
            most = middle
        else:
            least = middle + 1
    return least


def least_ticks(setup, many):
    """The least number of ticks in which so many rows can be heard."""
    setup = _budgeted(setup)
    need_within(many, 1, MOST_ROWS)
    return _least_ticks(setup, many)


def _fast_frame(setup, source, at):
    """(heard, source, at, sent) of a source's frame, at its fastest, so that the first one is heard at 0."""
    low, _, least, most, gap, _ = setup[0][source]
    sent = at * low * gap - most
    return max(0, sent + least), source, at, sent


def _row_of(setup, frame, rboot):
    """The row of a frame that is heard by a recorder's boot."""
    _, source, at, _ = frame
    return rboot, 0, source, 0, at, at * setup[0][source][4], ()


def _fastest(setup, many):
    """As `fastest`, of what is known to be a setup and a number of rows."""
    ticks = _least_ticks(setup, many)
    frames = []
    for source, clock in enumerate(setup[0]):
        frames.extend([_fast_frame(setup, source, at) for at in range(_rows_within(clock, ticks))])
    frames = sorted(frames)[:many]
    # The stamps of a long flight would be too great for one boot, so the recorder
    # is powered up anew for each tick at which frames are heard.
    ticks_heard = sorted(set([frame[0] for frame in frames]))
    rows = tuple([_row_of(setup, frame, ticks_heard.index(frame[0])) for frame in frames])
    return rows, tuple([(frame[3], frame[0]) for frame in frames])


def fastest(setup, many):
    """Some (rows, course): so many rows that are heard in the least ticks, the first one at 0."""
    setup = _budgeted(setup)
    need_within(many, 1, MOST_ROWS)
    return _fastest(setup, many)


def covered(setup, kept):
    """The greatest number of ticks that so many last rows cover, -1 if not even 0."""
    setup = _budgeted(setup)
    need_within(kept, 1, MOST_ROWS - 1)
    return _least_ticks(setup, kept + 1) - 1


def kept_for(setup, ticks):
    """The least number of last rows that cover so many ticks."""
    setup = _budgeted(setup)
    need_number(ticks)
    return _most_rows(setup, ticks)


def budget(setup, kept, ticks):
    """`None` if so many last rows cover so many ticks; else some (rows, course) in which they do not."""
    setup = _budgeted(setup)
    need_within(kept, 1, MOST_ROWS - 1)
    need_number(ticks)
    return None if _most_rows(setup, ticks) <= kept else _fastest(setup, kept + 1)
