"""What a memory that was left tells of the blocks that were laid."""

from wrecktold.blocks import block_told, blocks_in, is_laid, lines_by_number, need_shape, slot_pieces
from wrecktold.errors import Broken, NoBlock, Refused
from wrecktold.slots import is_torn
from wrecktold.words import has_parts, is_number


def _is_chip(shape, value):
    """Whether any value is what lies in the slots of a chip."""
    _, _, slots, _, cells = shape
    return has_parts(value, slots) and all(is_laid(part, cells) for part in value)


def _need_memory(shape, memory):
    """The shape; any value that is no memory of it is refused."""
    shape = need_shape(shape)
    if not has_parts(memory, shape[0]) or not all(row is None or _is_chip(shape, row) for row in memory):
        raise Refused(memory)
    return shape


def _slots_of(shape, memory):
    """(slot, what lies in it by chip) of all slots."""
    return [(slot, slot_pieces(memory, slot)) for slot in range(shape[2])]


def salvage(shape, memory):
    """(number, slot, octets), ascending, of all blocks that the slots tell."""
    shape = _need_memory(shape, memory)
    told = []
    for slot, pieces in _slots_of(shape, memory):
        told.extend([(number, slot, octets) for number, octets in blocks_in(shape, pieces)])
    return tuple(sorted(told))


def _short_in(shape, slot, pieces):
    """(number, slot, many) of the numbers that have pieces in a slot which tell nothing."""
    told = [number for number, _ in blocks_in(shape, pieces)]
    lines = lines_by_number(pieces)
    short = [number for number in lines if number not in told]
    return [(number, slot, len([line for line in lines[number] if line is not None])) for number in short]


def short_blocks(shape, memory):
    """(number, slot, many), ascending, of the numbers of which so many pieces lie in a slot that tell nothing."""
    shape = _need_memory(shape, memory)
    short = []
    for slot, pieces in _slots_of(shape, memory):
        short.extend(_short_in(shape, slot, pieces))
    return tuple(sorted(short))


def torn_places(shape, memory):
    """Ascending (slot, chip) of all that is torn."""
    shape = _need_memory(shape, memory)
    slots = _slots_of(shape, memory)
    return tuple([(slot, chip) for slot, pieces in slots for chip, part in enumerate(pieces) if is_torn(part)])


def lost_chips(shape, memory):
    """The ascending chips that are lost."""
    _need_memory(shape, memory)
    return tuple([chip for chip, row in enumerate(memory) if row is None])


def _block(shape, number, octets):
    """A block, as a list of (number, asks, data); of no block the list is empty."""
    try:
        asks, data = block_told(shape, octets)
    except Broken:
        return []
    return [(number, asks, data)]


def told_blocks(shape, memory):
    """(number, asks, data), ascending, of all blocks that are told."""
    told = []
    for number, _, octets in salvage(shape, memory):
        told.extend(_block(shape, number, octets))
    return tuple(told)


def data_of(shape, memory, number):
    """The data of a block that is told."""
    told = told_blocks(shape, memory)
    if is_number(number):
        for block, _, data in told:
            if block == number:
                return data
    raise NoBlock(number)


def asks_of(shape, memory):
    """The asks of the newest block that is told, `()` if there is none."""
    told = told_blocks(shape, memory)
    return told[-1][1] if told else ()


def holes(shape, memory):
    """Ascending (first, last) of the numbers that lack between those that the slots tell."""
    numbers = [number for number, _, _ in salvage(shape, memory)]
    return tuple([(one + 1, other - 1) for one, other in zip(numbers, numbers[1:]) if one + 1 < other])
