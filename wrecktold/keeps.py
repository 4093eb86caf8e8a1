"""What is to be kept of a ring of slots, and a ring that is led along so that all of it stays."""

from wrecktold.errors import Refused
from wrecktold.slots import TORN, has_row_form, need_slots, next_number
from wrecktold.words import has_parts, is_integer, is_number, is_sequence, need_number, need_within

# How many blocks an ask can reach to either side.
FARTHEST = 1000


def _is_stretch(value):
    """Whether any value is a stretch."""
    return has_parts(value, 2) and is_number(value[0]) and is_number(value[1]) and value[0] <= value[1]


def check_stretches(value):
    """Any value that is a sequence of stretches, as tuples."""
    if not is_sequence(value) or not all(_is_stretch(part) for part in value):
        raise Refused(value)
    return tuple([tuple(part) for part in value])


def _is_ask(value):
    """Whether any value is a name and a stretch."""
    return has_parts(value, 3) and is_number(value[0]) and _is_stretch(value[1:])


def are_asks(value):
    """Whether any value is a sequence of asks of unlike names."""
    if not is_sequence(value) or not all(_is_ask(part) for part in value):
        return False
    return len(set([part[0] for part in value])) == len(value)


def _joined(stretches):
    """Ascending stretches of the same blocks, none of which meets or touches another one."""
    told = []
    for first, end in sorted(stretches):
        if told and first <= told[-1][1] + 1:
            told[-1] = (told[-1][0], max(told[-1][1], end))
        else:
            told.append((first, end))
    return told


def _many_in(stretches):
    """How many blocks are in some of the stretches."""
    return sum([end - first + 1 for first, end in _joined(stretches)])


def _kept(number, last, stretches):
    """The blocks that are to be kept while this one is laid, as joined stretches."""
    kept = [(first, min(end, number - 1)) for first, end in stretches if first < number]
    if number > 0 and last > 0:
        kept.append((max(0, number - last), number - 1))
    return _joined(kept)


def needed(number, last, stretches):
    """The ascending blocks that are to be kept while this one is laid."""
    stretches = check_stretches(stretches)
    need_number(number)
    kept = _kept(number, last, stretches)
    return tuple([block for first, end in kept for block in range(first, end + 1)])


def first_lack(number, last, stretches, row):
    """The least block that is to be kept while this one is laid and is not in the row, or `None`."""
    # Stretches can be far longer than the row: it is left at the first that lacks.
    for first, end in _kept(number, last, stretches):
        for block in range(first, end + 1):
            if block not in row:
                return block
    return None


def _need_at(number, last, stretches):
    """As `need_at`, of what is known to be stretches and a number."""
    return 1 + _many_in(_kept(number, last, stretches))


def need_at(number, last, stretches):
    """How many slots are needed while this block is laid."""
    stretches = check_stretches(stretches)
    need_number(number)
    return _need_at(number, last, stretches)


def in_all(stretches):
    """How many blocks are in some of the stretches."""
    return _many_in(check_stretches(stretches))


def _need_ring(slots, last):
    """Refuses any value that is no number of slots, then any that is no number of last blocks."""
    need_slots(slots)
    need_within(last, 1, slots - 1)


def _first_full(slots, last, number, stretches):
    """As `first_full`, of what is known to be a ring, stretches and a number."""
    if _many_in(stretches) + last + 1 <= slots:
        return None
    # What is needed never falls from one block to the next, and is all at once
    # when the stretches lie behind the last ones: so the first is found by halving.
    low = number
    high = max(number, max([end for _, end in stretches]) + last + 1)
    while low < high:
        middle = (low + high) // 2
        if _need_at(middle, last, stretches) > slots:
            high = middle
        else:
            low = middle + 1
    return low


def first_full(slots, last, number, stretches):
    """The first block from this one on for which slots lack, `None` if there is none."""
    _need_ring(slots, last)
    stretches = check_stretches(stretches)
    need_number(number)
    return _first_full(slots, last, number, stretches)


def _is_kept(block, number, last, stretches):
    """Whether a block is to be kept while another one is laid."""
    if block >= number:
        return False
    return block >= number - last or any(first <= block <= end for first, end in stretches)


def _place(row, number, last, stretches):
    """The slot in which a block is laid, `None` if none is left."""
    for word in (TORN, None):
        if word in row:
            return row.index(word)
    free = [block for block in row if not _is_kept(block, number, last, stretches)]
    return row.index(min(free)) if free else None


def place_in(row, number, last, stretches):
    """The slot in which a block is laid."""
    if not has_row_form(row):
        raise Refused(row)
    stretches = check_stretches(stretches)
    need_number(number)
    slot = _place(row, number, last, stretches)
    if slot is None:
        raise Refused(row)
    return slot


def _need_reach(ahead, behind):
    """Refuses the first of the two that is no number up to the farthest."""
    for value in (ahead, behind):
        need_within(value, 0, FARTHEST)


class Keeps:
    """A ring of slots that is led along: what is to be kept is not laid over."""

    def __init__(self, slots, last):
        _need_ring(slots, last)
        self.slots = slots
        self.last = last
        self.number = 0
        self.row = (None,) * slots
        self.asks = ()
        self.given = 0

    def stretches(self):
        """The stretches of the asks that are given now."""
        return tuple([(first, end) for _, first, end in self.asks])

    def first_there(self):
        """The least block from which on all up to the newest one lie there."""
        first = self.number
        while first - 1 in self.row:
            first -= 1
        return first

    def stretch_of(self, ahead, behind):
        """The stretch so far ahead, as it lies there, and behind; `None` if it has no block."""
        first = max(self.first_there(), self.number - ahead)
        end = self.number + behind - 1
        return (first, end) if first <= end else None

    def full_with(self, ahead, behind):
        """The first block for which slots would lack, were this stretch given, too, or `None`."""
        _need_reach(ahead, behind)
        stretch = self.stretch_of(ahead, behind)
        more = () if stretch is None else (stretch,)
        return _first_full(self.slots, self.last, self.number, self.stretches() + more)

    def offered(self, ahead, behind):
        """What `ask` would give: (name, first, last), or `None`."""
        full = self.full_with(ahead, behind)
        stretch = self.stretch_of(ahead, behind)
        if stretch is None or full is not None:
            return None
        return (self.given,) + stretch

    def ask(self, ahead, behind):
        """Gives a stretch a name, if it has a block and there is room for ever; else `None`."""
        told = self.offered(ahead, behind)
        if told is not None:
            self.asks = self.asks + (told,)
            self.given += 1
        return told

    def without(self, name):
        """The asks given now but the one of this name."""
        if not is_number(name) or name not in [ask[0] for ask in self.asks]:
            raise Refused(name)
        return tuple([ask for ask in self.asks if ask[0] != name])

    def release(self, name):
        """Lets go what was given by this name."""
        self.asks = self.without(name)

    def place(self):
        """The slot in which the next block is laid."""
        return _place(self.row, self.number, self.last, self.stretches())

    def _put(self, part):
        """Puts something into the slot of the next block; the slot."""
        slot = self.place()
        self.row = self.row[:slot] + (part,) + self.row[slot + 1:]
        return slot

    def go_on(self):
        """Lays the next block: (slot, number)."""
        number = self.number
        slot = self._put(number)
        self.number += 1
        return slot, number

    def torn(self):
        """The laying of the next block is cut: the slot."""
        return self._put(TORN)


def _is_row_of(slots, value):
    """Whether any value is a row of so many slots that has no number twice."""
    if not has_row_form(value) or len(value) != slots:
        return False
    numbers = [part for part in value if is_integer(part)]
    return len(set(numbers)) == len(numbers)


def keeps_of(slots, last, row, asks):
    """The ring of which this lies there."""
    ring = Keeps(slots, last)
    if not _is_row_of(slots, row):
        raise Refused(row)
    if not are_asks(asks):
        raise Refused(asks)
    ring.row = tuple(row)
    ring.number = next_number(row)
    ring.asks = tuple(sorted([tuple(ask) for ask in asks]))
    ring.given = max([ask[0] + 1 for ask in asks], default=0)
    stretches = ring.stretches()
    if _first_full(slots, last, ring.number, stretches) is not None:
        raise Refused(asks)
    if first_lack(ring.number, last, stretches, ring.row) is not None:
        raise Refused(asks)
    return ring
