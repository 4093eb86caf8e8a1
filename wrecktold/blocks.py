"""Blocks: asks and data as octets, and what pieces in a slot tell of them."""

from wrecktold.chips import is_piece
from wrecktold.codes import LEAST_CHIPS, MOST_CHIPS
from wrecktold.errors import BadOctets, Broken, Refused
from wrecktold.forms import is_value, read_value, write_value
from wrecktold.keeps import are_asks
from wrecktold.pieces import lines_octets
from wrecktold.slots import LEAST_SLOTS, MOST_SLOTS, is_torn
from wrecktold.words import has_parts, is_within, need_octets

MOST_BLOCK_CELLS = 200


def _is_shape(value):
    """Whether any value is a shape."""
    if not has_parts(value, 5):
        return False
    chips, need, slots, last, cells = value
    if not is_within(chips, LEAST_CHIPS, MOST_CHIPS) or not is_within(slots, LEAST_SLOTS, MOST_SLOTS):
        return False
    return is_within(need, 1, chips - 1) and is_within(last, 1, slots - 1) and is_within(cells, 1, MOST_BLOCK_CELLS)


def need_shape(value):
    """Any value that is a shape, as a tuple."""
    if not _is_shape(value):
        raise Refused(value)
    return tuple(value)


def _most_octets(shape):
    """How many octets a block of the shape can have."""
    _, need, _, _, cells = shape
    return need * cells


def _asks_form(shape, asks):
    """The form of asks, `None` if a block cannot hold it; any value that is no asks is refused."""
    if not are_asks(asks):
        raise Refused(asks)
    # Asks without a form need one that is far longer than any block.
    form = write_value(asks) if is_value(asks) else None
    return None if form is None or len(form) > _most_octets(shape) else form


def data_room(shape, asks):
    """How many octets of data a block can hold beside asks, `None` if it cannot hold these."""
    shape = need_shape(shape)
    form = _asks_form(shape, asks)
    return None if form is None else _most_octets(shape) - len(form)


def _data_octets(value):
    """Any value that is octets, as a tuple; any other one is refused."""
    try:
        return need_octets(value)
    except BadOctets:
        raise Refused(value) from None


def block_octets(shape, asks, data):
    """The octets of a block."""
    shape = need_shape(shape)
    form = _asks_form(shape, asks)
    if form is None:
        raise Refused(asks)
    octets = form + _data_octets(data)
    if len(octets) > _most_octets(shape):
        raise Refused(data)
    return octets


def block_told(shape, octets):
    """(asks, data) of a block's octets."""
    shape = need_shape(shape)
    octets = need_octets(octets)
    if len(octets) > _most_octets(shape):
        raise Broken(0)
    try:
        asks, behind = read_value(octets, 0)
    except Broken:
        raise Broken(0) from None
    if not are_asks(asks):
        raise Broken(0)
    return asks, octets[behind:]


def is_laid(value, cells):
    """Whether any value is what can lie in a slot of a chip: nothing, what is torn, or a piece of so many cells."""
    return value is None or is_torn(value) or (is_piece(value) and len(value[1]) == cells)


def slot_pieces(memory, slot):
    """By chip what lies in a slot, lost chips having nothing."""
    return tuple([None if row is None else row[slot] for row in memory])


def lines_by_number(pieces):
    """By number of a block, ascending, by chip the cells of its piece, or `None`."""
    lines = {}
    for chip, piece in enumerate(pieces):
        if has_parts(piece, 2):
            number, cells = piece
            if number not in lines:
                lines[number] = [None] * len(pieces)
            lines[number][chip] = tuple(cells)
    return {number: lines[number] for number in sorted(lines)}


def blocks_in(shape, pieces):
    """As `slot_blocks`, of what is known to be a shape and pieces."""
    told = []
    for number, lines in lines_by_number(pieces).items():
        octets = lines_octets(shape[1], lines)
        if octets is not None:
            told.append((number, octets))
    return tuple(told)


def slot_blocks(shape, pieces):
    """(number, octets), ascending, of each number of which enough pieces are there, all of the same octets."""
    shape = need_shape(shape)
    chips, _, _, _, cells = shape
    if not has_parts(pieces, chips) or not all(is_laid(piece, cells) for piece in pieces):
        raise Refused(pieces)
    return blocks_in(shape, pieces)
