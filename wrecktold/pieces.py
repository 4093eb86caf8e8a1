"""Octets as pieces, one for each chip, of which any few that are enough tell them."""

from wrecktold.codes import are_cells, coded_lines, lines_fit, mended_lines, need_code, told_lines
from wrecktold.errors import Refused
from wrecktold.words import has_parts, need_octets, need_within

MOST_CELLS = 1000

# The cell behind the last octet: no octet is so great.
FILL = 256


def _need_form(count, need, cells):
    """Refuses the first value of these three that is not as it must be."""
    need_code(count, need)
    need_within(cells, 1, MOST_CELLS)


def _lines(count, need, cells, pieces):
    """Any value that is pieces, by chip a piece as a tuple, or `None`."""
    _need_form(count, need, cells)
    if not has_parts(pieces, count):
        raise Refused(pieces)
    for piece in pieces:
        if piece is not None and not are_cells(piece, cells):
            raise Refused(pieces)
    return [None if piece is None else tuple(piece) for piece in pieces]


def pieces_of(count, need, cells, octets):
    """By chip its piece of the octets."""
    _need_form(count, need, cells)
    told = need_octets(octets)
    if len(told) > need * cells:
        raise Refused(octets)
    filled = told + (FILL,) * (need * cells - len(told))
    return coded_lines(count, [filled[at::need] for at in range(need)])


def pieces_fit(count, need, cells, pieces):
    """Whether some data have all the pieces that are there."""
    return lines_fit(need, _lines(count, need, cells, pieces))


def lines_octets(need, lines):
    """The octets of which pieces, by chip a tuple or `None`, are; `None` if they tell none."""
    data = told_lines(need, lines)
    if data is None:
        return None
    cells = [cell for column in zip(*data) for cell in column]
    many = len(cells)
    while many > 0 and cells[many - 1] == FILL:
        many -= 1
    return None if FILL in cells[:many] else tuple(cells[:many])


def octets_of(count, need, cells, pieces):
    """The octets of which these are pieces."""
    octets = lines_octets(need, _lines(count, need, cells, pieces))
    if octets is None:
        raise Refused(pieces)
    return octets


def mended_pieces(count, need, cells, pieces):
    """(all pieces, altered chips) of pieces few enough of which are altered, else `None`."""
    return mended_lines(count, need, _lines(count, need, cells, pieces))
