"""A flight: a recorder that hears frames onto its chips, whose power is cut, and of which chips are lost."""

from wrecktold.blocks import data_room, need_shape
from wrecktold.chips import Chips, need_steps
from wrecktold.errors import Cut, Refused
from wrecktold.meaning import meaning
from wrecktold.packing import most_length, row_octets
from wrecktold.recorder import open_recorder
from wrecktold.setups import BOOTS, check_row, check_setup
from wrecktold.words import is_below, is_sequence


class World:
    """A recorder on its chips, led along step by step."""

    def __init__(self, setup, shape):
        self.setup = check_setup(setup)
        self.shape = need_shape(shape)
        if not self._rows_fit(()):
            raise Refused(shape)
        self.chips = Chips(self.shape[0], self.shape[2])
        self.recorder = open_recorder(self.chips, self.shape)
        self.rboot = 0

    def _rows_fit(self, asks):
        """Whether each row of the setup fits into a block beside these asks."""
        room = data_room(self.shape, asks)
        return room is not None and room >= most_length(self.setup)

    def _need_boots(self, many):
        """Refuses the number of the last one of so many starts, if it is too great."""
        if self.rboot + many >= BOOTS:
            raise Refused(self.rboot + many)

    def _need_cut(self, steps):
        """Refuses any value that is no steps, and steps if there can be no start behind them."""
        need_steps(steps)
        if steps is not None:
            self._need_boots(1)

    def _start(self, steps):
        """Starts the recorder anew; the power is cut behind so many steps."""
        self.rboot += 1
        self.chips.give(steps)
        try:
            self.recorder = open_recorder(self.chips, self.shape)
        except Cut:
            # The next start goes on where this one was cut.
            pass

    def _cut_behind(self, steps, deed):
        """What a deed tells; `None` if the power was cut behind so many steps, and the recorder started anew."""
        self.chips.give(steps)
        try:
            told = deed()
        except Cut:
            self._start(None)
            return None
        self.chips.give(None)
        return told

    def restart(self, cuts=()):
        """Starts the recorder anew, cut behind each of these steps, and once more: the number of the start."""
        if not is_sequence(cuts):
            raise Refused(cuts)
        for steps in cuts:
            need_steps(steps)
        self._need_boots(len(cuts) + 1)
        for steps in cuts:
            self._start(steps)
        self._start(None)
        return self.rboot

    def hear(self, rstamp, frame, steps=None):
        """Hears a frame at this stamp: the number of its block, `None` if the power was cut."""
        told = (self.rboot, rstamp) + tuple(frame) if is_sequence(frame) else frame
        row = check_row(self.setup, told)
        self._need_cut(steps)
        data = row_octets(self.setup, row)
        return self._cut_behind(steps, lambda: self.recorder.hear(data))

    def ask(self, ahead, behind, steps=None):
        """Asks for a stretch to be kept: (name, first, last), `None` if it is not given or the power was cut."""
        ring = self.recorder.ring
        told = ring.offered(ahead, behind)
        self._need_cut(steps)
        if told is None or not self._rows_fit(ring.asks + (told,)):
            return None
        return self._cut_behind(steps, lambda: self.recorder.ask(ahead, behind))

    def release(self, name, steps=None):
        """Lets go what was asked for by this name: the number of a block, `None` if the power was cut."""
        self.recorder.ring.without(name)
        self._need_cut(steps)
        return self._cut_behind(steps, lambda: self.recorder.release(name))

    def lose(self, chip):
        """Loses a chip, if enough of them are left."""
        many, need, _, _, _ = self.shape
        if not is_below(chip, many) or self.chips.is_lost(chip):
            raise Refused(chip)
        lost = len([other for other in range(many) if self.chips.is_lost(other)])
        if many - lost - 1 < need:
            raise Refused(chip)
        self.chips.lose(chip)

    def wreck(self):
        """The memory as it lies."""
        return self.chips.memory()

    def told(self):
        """What the wreck tells."""
        return meaning(self.setup, self.shape, self.wreck())
