"""What a wreck tells: its rows, whether they can be true, and what all courses of them have in common."""

from wrecktold.courses import courses_of
from wrecktold.errors import BadRows, Broken, NoHappening, Quarrel
from wrecktold.happenings import is_word, variable
from wrecktold.order import order_word
from wrecktold.packing import unpacked
from wrecktold.salvage import asks_of, told_blocks
from wrecktold.setups import MOST_ROWS, check_rows, check_setup
from wrecktold.words import has_parts, is_integer


def _row_of(setup, data):
    """The row that a block's data tells, `None` if it tells none."""
    try:
        return unpacked(setup, data)
    except Broken:
        return None


def _read(setup, shape, memory):
    """(number, row), ascending, of all blocks that have data; the row is `None` if this tells none."""
    setup = check_setup(setup)
    return [(number, _row_of(setup, data)) for number, _, data in told_blocks(shape, memory) if data]


def wreck_rows(setup, shape, memory):
    """(number, row), ascending, of all blocks that tell a row."""
    return tuple([(number, row) for number, row in _read(setup, shape, memory) if row is not None])


def unread(setup, shape, memory):
    """The ascending numbers of the blocks that have data which tells no row."""
    return tuple([number for number, row in _read(setup, shape, memory) if row is None])


def _true(setup, shape, memory):
    """(numbers, all courses of their rows); rows that cannot be true quarrel."""
    told = wreck_rows(setup, shape, memory)
    numbers = tuple([number for number, _ in told])
    try:
        rows = check_rows(setup, [row for _, row in told])
    except BadRows as error:
        # Too many rows are told as -1: the first one that cannot stand is behind the most.
        raise Quarrel(("rows", numbers[MOST_ROWS if error.at < 0 else error.at])) from None
    return numbers, courses_of(setup, rows)


def meaning(setup, shape, memory):
    """("told", numbers, rows, asks), or ("quarrel", paper) if the rows cannot be true."""
    try:
        numbers, told = _true(setup, shape, memory)
    except Quarrel as error:
        return "quarrel", error.paper
    return "told", numbers, told.rows, asks_of(shape, memory)


def _variable(numbers, rows, value):
    """The number of the time of a happening that is told by its block."""
    if not has_parts(value, 2) or not is_word(value[0]) or not is_integer(value[1]) or value[1] not in numbers:
        raise NoHappening(value)
    return variable(rows, (value[0], numbers.index(value[1])))


def wreck_stretch(setup, shape, memory, one, other):
    """(least, greatest) of how far the other happening is behind the one, `None` for no bound."""
    numbers, told = _true(setup, shape, memory)
    x = _variable(numbers, told.rows, one)
    return told.span(x, _variable(numbers, told.rows, other))


def wreck_order(setup, shape, memory, one, other):
    """How the one happening stands to the other in all courses of the rows told."""
    return order_word(wreck_stretch(setup, shape, memory, one, other))
