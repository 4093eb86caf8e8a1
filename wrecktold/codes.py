"""Cells of chips, coded so that any few of them that are enough tell the data.

Cells by chip are those of a polynomial modulo 257 at 0, 1, .. A line has one
cell of each of some polynomials: pieces are lines, a lone cell is a line of one.
"""

from itertools import combinations

from wrecktold.errors import Refused
from wrecktold.words import has_parts, is_below, need_within

CELL_BOUND = 257
LEAST_CHIPS = 2
MOST_CHIPS = 8


def are_cells(value, many):
    """Whether any value is a sequence of just so many cells."""
    if not has_parts(value, many):
        return False
    for cell in value:
        # Spelled out, not by `is_below`: memories have many, asked for again and again.
        if not isinstance(cell, int) or isinstance(cell, bool) or cell < 0 or cell >= CELL_BOUND:
            return False
    return True


def need_code(count, need):
    """Refuses any value that is no number of chips, then any that is no number of those needed."""
    need_within(count, LEAST_CHIPS, MOST_CHIPS)
    need_within(need, 1, count)


def _shares(chips, at):
    """By chip how often its cell counts in the cell at a place, of a polynomial that they tell."""
    shares = []
    for one in chips:
        top = 1
        bottom = 1
        for other in chips:
            if other != one:
                top = top * (at - other) % 257
                bottom = bottom * (one - other) % 257
        # The power undoes a multiplication: 257 is a prime.
        shares.append(top * pow(int(bottom), 255, 257) % 257)
    return shares


def _line_at(lines, chips, at):
    """The line at a place, the lines by chip being told by those at these chips."""
    if at in chips:
        return lines[at]
    total = [0] * len(lines[chips[0]])
    for share, chip in zip(_shares(chips, at), chips):
        total = [was + share * cell for was, cell in zip(total, lines[chip])]
    return tuple([cell % 257 for cell in total])


def _chips_with(lines):
    """The ascending chips at which there is a line."""
    return [chip for chip, line in enumerate(lines) if line is not None]


def _agree(need, lines, chips):
    """Whether the lines at these chips are of the same data."""
    for chip in chips[need:]:
        if _line_at(lines, chips[:need], chip) != lines[chip]:
            return False
    return True


def coded_lines(count, data):
    """By chip its line: at the first chips the lines of the data."""
    return tuple([_line_at(data, list(range(len(data))), chip) for chip in range(count)])


def lines_fit(need, lines):
    """Whether some data have all the lines that are there."""
    return _agree(need, lines, _chips_with(lines))


def told_lines(need, lines):
    """The data of lines, `None` if fewer than needed are there or they do not fit."""
    chips = _chips_with(lines)
    if len(chips) < need or not _agree(need, lines, chips):
        return None
    return tuple([_line_at(lines, chips[:need], at) for at in range(need)])


def _agreeing(need, lines, chips, many):
    """The first so many of the chips of which all have lines of the same data, `None` if there are none."""
    for some in combinations(chips, many):
        if _agree(need, lines, some):
            return some
    return None


def mended_lines(count, need, lines):
    """By chip the line it had, and the chips that have another one, `None` if too many have."""
    chips = _chips_with(lines)
    if len(chips) < need:
        return None
    # Two for each altered chip must be left beside those needed.
    some = _agreeing(need, lines, chips, len(chips) - (len(chips) - need) // 2)
    if some is None:
        return None
    whole = tuple([_line_at(lines, some[:need], chip) for chip in range(count)])
    return whole, tuple([chip for chip in chips if lines[chip] != whole[chip]])


def _row_lines(count, need, row):
    """Any value that is a row, as lines of one cell."""
    need_code(count, need)
    if not has_parts(row, count):
        raise Refused(row)
    for cell in row:
        if cell is not None and not is_below(cell, CELL_BOUND):
            raise Refused(row)
    return [None if cell is None else (cell,) for cell in row]


def _cells_of(lines):
    """The cells of lines of one cell."""
    return tuple([line[0] for line in lines])


def coded(count, need, data):
    """By chip the cell of the data."""
    need_code(count, need)
    if not are_cells(data, need):
        raise Refused(data)
    return _cells_of(coded_lines(count, [(cell,) for cell in data]))


def fits(count, need, row):
    """Whether some data have all cells that the row has."""
    return lines_fit(need, _row_lines(count, need, row))


def told_data(count, need, row):
    """The data of a row, `None` if it has too few cells or does not fit."""
    data = told_lines(need, _row_lines(count, need, row))
    return None if data is None else _cells_of(data)


def mended(count, need, row):
    """(data, altered chips) of a row that has few enough of these, else `None`."""
    told = mended_lines(count, need, _row_lines(count, need, row))
    if told is None:
        return None
    whole, chips = told
    return _cells_of(whole[:need]), chips
