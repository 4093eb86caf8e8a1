"""Chips of slots: what was written on them, what was cut, and what is lost."""

from wrecktold.codes import MOST_CHIPS, are_cells
from wrecktold.errors import Cut, Refused
from wrecktold.slots import MOST_SLOTS, TORN
from wrecktold.words import has_parts, is_below, is_sequence, need_number, need_within

BLOCK_BOUND = 1000000000


def is_piece(value):
    """Whether any value is a piece: the number of a block, and cells."""
    if not has_parts(value, 2) or not is_below(value[0], BLOCK_BOUND) or not is_sequence(value[1]):
        return False
    return are_cells(value[1], len(value[1]))


def need_steps(value):
    """Refuses any value that is neither a number of steps nor `None`, for no end of them."""
    if value is not None:
        need_number(value)


class Chips:
    """An outside that stays when the power is cut, but for chips that are lost."""

    def __init__(self, many, slots, *, steps=None):
        need_within(many, 1, MOST_CHIPS)
        need_within(slots, 1, MOST_SLOTS)
        need_steps(steps)
        self.many = many
        self.slots = slots
        self.steps = steps
        self._lying = [[None] * slots for chip in range(many)]
        self._lost = [False] * many

    def _need_place(self, chip, slot):
        """Refuses any value that is no chip, then any that is no slot."""
        need_within(chip, 0, self.many - 1)
        need_within(slot, 0, self.slots - 1)

    def is_lost(self, chip):
        """Whether a chip is lost."""
        need_within(chip, 0, self.many - 1)
        return self._lost[chip]

    def read(self, chip, slot):
        """What lies in a slot of a chip: `None`, "torn" or a piece."""
        self._need_place(chip, slot)
        return None if self._lost[chip] else self._lying[chip][slot]

    def write(self, chip, slot, piece):
        """Lays a piece into a slot of a chip: one step."""
        self._need_place(chip, slot)
        if not is_piece(piece):
            raise Refused(piece)
        if self._lost[chip]:
            return
        if self.steps == 0:
            self._lying[chip][slot] = TORN
            raise Cut()
        if self.steps is not None:
            self.steps -= 1
        self._lying[chip][slot] = (piece[0], tuple(piece[1]))

    def lose(self, chip):
        """Loses a chip for ever."""
        need_within(chip, 0, self.many - 1)
        self._lost[chip] = True

    def give(self, steps):
        """From now on so many steps are left, without end for `None`."""
        need_steps(steps)
        self.steps = steps

    def memory(self):
        """By chip what lies in its slots, `None` for a lost one."""
        return tuple([None if lost else tuple(row) for lost, row in zip(self._lost, self._lying)])

    def twin(self):
        """Other chips on which the same lies and is lost, with steps without end."""
        other = Chips(self.many, self.slots)
        other._lying = [list(row) for row in self._lying]
        other._lost = list(self._lost)
        return other
