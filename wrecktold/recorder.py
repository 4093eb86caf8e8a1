"""The recorder: lays blocks on chips, and goes on where the last one was cut."""

from wrecktold.blocks import block_octets, block_told, blocks_in, data_room, need_shape, slot_pieces
from wrecktold.errors import Broken, Refused
from wrecktold.keeps import first_lack, keeps_of
from wrecktold.pieces import pieces_of
from wrecktold.slots import TORN
from wrecktold.words import has_parts


def _write(chips, shape, slot, number, octets):
    """Writes a block's pieces that lack in a slot, by chip."""
    many, need, _, _, cells = shape
    for chip, line in enumerate(pieces_of(many, need, cells, octets)):
        piece = (number, line)
        if chips.read(chip, slot) != piece:
            chips.write(chip, slot, piece)


class Recorder:
    """Lays blocks on chips, each one with the asks in force; behind a cut the chips are opened anew."""

    def __init__(self, chips, shape, ring):
        self.ring = ring
        self._chips = chips
        self._shape = shape

    def _go_on(self, asks, data):
        """Lays the next block, with these asks and data, where the ring has its place: its number."""
        octets = block_octets(self._shape, asks, data)
        _write(self._chips, self._shape, self.ring.place(), self.ring.number, octets)
        _, number = self.ring.go_on()
        return number

    def hear(self, data):
        """Lays the next block with this data: its number."""
        return self._go_on(self.ring.asks, data)

    def room(self):
        """How many octets of data the next block can hold."""
        return data_room(self._shape, self.ring.asks)

    def ask(self, ahead, behind):
        """Asks for a stretch to be kept: (name, first, last), `None` if it is not given."""
        told = self.ring.offered(ahead, behind)
        if told is None or data_room(self._shape, self.ring.asks + (told,)) is None:
            return None
        self.ring.ask(ahead, behind)
        self._go_on(self.ring.asks, ())
        return told

    def release(self, name):
        """Lets go what was asked for by this name: the number of the block that tells it."""
        # The ring lets go at last: till the block lies there, the power can be
        # cut, and then the ask is still in force.
        number = self._go_on(self.ring.without(name), ())
        self.ring.release(name)
        return number


def _newest(found):
    """(number, slot, octets) of the greatest number that the slots tell, `None` if there is none."""
    told = [(number, slot, octets) for slot, blocks in enumerate(found) for number, octets in blocks]
    return max(told, default=None)


def _lies_whole(memory, slot, number):
    """Whether all chips that are there have a piece of the number in a slot."""
    return all([row is None or (has_parts(row[slot], 2) and row[slot][0] == number) for row in memory])


def _slot_part(memory, slot, blocks):
    """The part of a ring's row for a slot: a number, `None` or "torn"."""
    for number, _ in blocks:
        if _lies_whole(memory, slot, number):
            return number
    return TORN if [part for part in slot_pieces(memory, slot) if part is not None] else None


def _asks_in_force(shape, newest):
    """The asks of the newest block."""
    number, _, octets = newest
    try:
        asks, _ = block_told(shape, octets)
    except Broken:
        raise Broken(number) from None
    return asks


def _ring_of(shape, row, newest):
    """The ring of what lies there, the newest block being mended."""
    _, _, slots, last, _ = shape
    if newest is None:
        return keeps_of(slots, last, row, ())
    number, slot, _ = newest
    asks = _asks_in_force(shape, newest)
    row = row[:slot] + [number] + row[slot + 1:]
    lack = first_lack(number + 1, last, [ask[1:] for ask in asks], row)
    if lack is not None:
        raise Broken(lack)
    return keeps_of(slots, last, row, asks)


def open_recorder(chips, shape):
    """The recorder of what lies on the chips, its newest block mended."""
    told = need_shape(shape)
    many, _, slots, _, _ = told
    if chips.many != many or chips.slots != slots:
        raise Refused(shape)
    memory = chips.memory()
    found = [blocks_in(told, slot_pieces(memory, slot)) for slot in range(slots)]
    newest = _newest(found)
    row = [_slot_part(memory, slot, blocks) for slot, blocks in enumerate(found)]
    ring = _ring_of(told, row, newest)
    if newest is not None:
        number, slot, octets = newest
        _write(chips, told, slot, number, octets)
    return Recorder(chips, told, ring)
