"""Points [24] to [26]: rows as octets, beside a reading of the test's own."""

import unittest

from plain import ODD, all_tuples, caught, chance, soon, with_part
from wrecktold.errors import BadFrame, BadOctets, BadSetup, Broken, Refused
from wrecktold.packing import most_length, packed, row_at, row_length, row_octets, unpacked

SETUP = (((1, 1, 0, 0, 2, 5), (1, 2, 0, 0, 2, 5)), (1, 1), ((0, None), (1, 3), (0, 7)))
ROW = (1, 300, 0, 2, 255, 70000, ((2, -1),))
BOUND = 10 ** 6


def wide_setup(dice, counts):
    """A setup whose sources have so many channels each, these in some order."""
    channels = [(source, dice.choice((None, 1, 1000))) for source, many in enumerate(counts) for _ in range(many)]
    dice.shuffle(channels)
    return ((1, 1, 0, 0, 2, 5),) * len(counts), (1, 1), tuple(channels)


def own_channels(setup, source):
    return [channel for channel in range(len(setup[2])) if setup[2][channel][0] == source]


def own_form(setup, row):
    rboot, rstamp, source, boot, number, stamp, readings = row
    out = bytes([rboot]) + rstamp.to_bytes(3, "big") + bytes([source, boot, number]) + stamp.to_bytes(3, "big")
    mine = own_channels(setup, source)
    told = [channel for channel, _ in readings]
    flags = sum(2 ** at for at, channel in enumerate(mine) if channel in told)
    out += flags.to_bytes(-(-len(mine) // 8), "little")
    for _, value in readings:
        out += (value + BOUND).to_bytes(3, "big")
    return tuple(out)


def own_row(setup, octets):
    """(row, length) of the form with which octets begin; `None` if no form does.

    Noughts behind octets are the least that can stand there: if no form begins
    with octets and noughts, nothing makes a form of these octets.
    """
    data = bytes(octets)
    rstamp, stamp = int.from_bytes(data[1:4], "big"), int.from_bytes(data[7:10], "big")
    if rstamp > BOUND or stamp > BOUND or data[4] >= len(setup[0]):
        return None
    mine = own_channels(setup, data[4])
    at = 10 + -(-len(mine) // 8)
    flags = int.from_bytes(data[10:at], "little")
    if flags >= 2 ** len(mine):
        return None
    readings = []
    for bit, channel in enumerate(mine):
        if flags >> bit & 1:
            value = int.from_bytes(data[at:at + 3], "big") - BOUND
            if value > BOUND:
                return None
            readings.append((channel, value))
            at += 3
    return (data[0], rstamp, data[4], data[5], data[6], stamp, tuple(readings)), at


def rows_at_bounds(dice, setup):
    """Rows with all parts at their bounds, or by chance, and some of their channels read."""
    for turn in range(60):
        source = dice.randrange(len(setup[0]))
        share = dice.choice((0, 0.5, 1))
        value = dice.choice((lambda: -BOUND, lambda: BOUND, lambda: 0, lambda: dice.randint(-BOUND, BOUND)))
        readings = tuple((channel, value()) for channel in own_channels(setup, source) if dice.random() < share)
        boots = [dice.choice((0, 255, dice.randrange(256))) for _ in range(3)]
        stamps = [dice.choice((0, 255, 256, 65535, 65536, BOUND, dice.randint(0, BOUND))) for _ in range(2)]
        yield boots[0], stamps[0], source, boots[1], boots[2], stamps[1], readings


def some_setups():
    dice = chance(31)
    for counts in [(1,), (0, 1), (7, 1), (8, 0), (9, 7), (16,), (0, 16), (15, 1), (3, 2, 0, 4), (1, 0, 0, 0, 0, 0, 0, 9)]:
        yield dice, wide_setup(dice, counts)


class Writing(unittest.TestCase):
    def test_the_form_octet_by_octet(self):
        self.assertEqual(row_octets(SETUP, ROW), (1, 0, 1, 44, 0, 2, 255, 1, 17, 112, 2, 15, 66, 63))
        self.assertEqual(row_octets(SETUP, (0, 0, 1, 0, 0, 0, ())), (0,) * 4 + (1,) + (0,) * 6)
        row = (255, BOUND, 0, 254, 253, BOUND, ((0, BOUND), (2, -BOUND)))
        form = (255, 15, 66, 64, 0, 254, 253, 15, 66, 64, 3, 30, 132, 128, 0, 0, 0)
        self.assertEqual(row_octets(setup=SETUP, row=row), form)
        setup = wide_setup(chance(1), (0, 3))
        self.assertEqual(row_octets(setup, (9, 1, 0, 8, 7, 2, ())), (9, 0, 0, 1, 0, 8, 7, 0, 0, 2))

    def test_rows_with_readings_at_all_bounds(self):
        for dice, setup in some_setups():
            for row in rows_at_bounds(dice, setup):
                told = row_octets(setup, row)
                self.assertEqual(told, own_form(setup, row))
                self.assertIs(told.__class__, tuple)
                self.assertEqual(row_length(setup, row), len(told))
                self.assertEqual(row_octets(setup, [*row[:6], [list(pair) for pair in row[6]]]), told)

    def test_the_flags_of_nine_channels(self):
        setup = wide_setup(chance(2), (9,))
        for channel in range(9):
            form = row_octets(setup, (0, 0, 0, 0, 0, 0, ((channel, 0),)))
            self.assertEqual(form[10:], ((2 ** channel, 0) if channel < 8 else (0, 1)) + (15, 66, 64))

    def test_the_greatest_length(self):
        for dice, setup in some_setups():
            most = most_length(setup)
            lengths = []
            for source in range(len(setup[0])):
                full = tuple((channel, BOUND) for channel in own_channels(setup, source))
                lengths.append(row_length(setup, (0, 0, source, 0, 0, 0, full)))
            self.assertEqual(most, max(lengths))
            for row in rows_at_bounds(dice, setup):
                self.assertLessEqual(row_length(setup, row), most)
        self.assertEqual(most_length(setup=[list(SETUP[0]), [1, 1], [list(part) for part in SETUP[2]]]), 17)

    def test_what_is_refused(self):
        for bad in [*ODD, SETUP[:2], with_part(SETUP, 0, ()), with_part(SETUP, 2, ((2, 1),))]:
            for call in (row_octets, row_length):
                at = caught(BadSetup, call, bad, None).at
                self.assertEqual(at, caught(BadSetup, most_length, bad).at)
        for call in (row_octets, row_length):
            for bad in [*ODD, ROW[:6], ROW[2:]]:
                self.assertEqual(caught(BadFrame, call, SETUP, bad).at, -1)
            for at, bad in [(0, 256), (0, True), (1, -1), (1, BOUND + 1), (2, 2), (3, 256), (4, 256), (5, BOUND + 1), (6, ((1, 0),))]:
                self.assertEqual(caught(BadFrame, call, SETUP, with_part(ROW, at, bad)).at, at)
            for bad in [((2, BOUND + 1),), ((2, -BOUND - 1),), ((2, 1), (0, 1)), ((0, None),), None]:
                self.assertEqual(caught(BadFrame, call, SETUP, with_part(ROW, 6, bad)).at, 6)


class Reading(unittest.TestCase):
    def test_octets_ahead_and_behind(self):
        for dice, setup in some_setups():
            for row in rows_at_bounds(dice, setup):
                form = row_octets(setup, row)
                ahead = tuple(dice.randrange(256) for _ in range(dice.randrange(4)))
                behind = tuple(dice.randrange(256) for _ in range(dice.randrange(4)))
                told = row_at(setup, ahead + form + behind, len(ahead))
                self.assertEqual(told, (row, len(ahead) + len(form)))
                self.assertTrue(all_tuples(told))
                self.assertEqual(row_at(setup=setup, octets=list(ahead + form + behind), at=len(ahead)), told)

    def test_cut_at_each_place(self):
        for dice, setup in some_setups():
            for row in list(rows_at_bounds(dice, setup))[:5]:
                form = row_octets(setup, row)
                for cut in range(len(form)):
                    self.assertEqual(caught(Broken, row_at, setup, form[:cut], 0).at, cut)
                    self.assertEqual(caught(Broken, row_at, setup, (250, 9) + form[:cut], 2).at, cut + 2)
                    self.assertEqual(caught(Broken, unpacked, setup, form[:cut]).at, cut)
        for at in (0, 1, 3, 4, 5, 1000, 10 ** 40):
            self.assertEqual(caught(Broken, row_at, SETUP, (0, 1, 2), at).at, 3)
        self.assertEqual(caught(Broken, row_at, SETUP, (), 0).at, 0)

    def test_each_octet_turned(self):
        for dice, setup in some_setups():
            for row in list(rows_at_bounds(dice, setup))[:3]:
                form = row_octets(setup, row)
                for place in range(len(form)):
                    for octet in (0, 1, 2, 3, 14, 15, 16, 30, 31, 65, 66, 67, 127, 128, 131, 132, 133, 255, dice.randrange(256)):
                        self.judge(setup, (7,) + form[:place] + (octet,) + form[place + 1:])

    def test_octets_by_chance(self):
        for dice, setup in some_setups():
            for turn in range(300):
                small = [dice.choice((0, 1, 15, 30, 255, dice.randrange(256))) for _ in range(dice.randrange(40))]
                self.judge(setup, (7, *small))

    def judge(self, setup, octets):
        """Looks at what is told of octets from place 1 on."""
        rest = octets[1:]
        # The form is known behind its last octet, however wrong is what stands there.
        for many in range(len(rest) + 1):
            told = own_row(setup, rest[:many] + (0,) * 100)
            if told is None:
                self.assertEqual(caught(Broken, row_at, setup, octets, 1).at, many)
                return
            if told[1] <= many:
                self.assertEqual(row_at(setup, octets, 1), (told[0], told[1] + 1))
                self.assertEqual(row_octets(setup, told[0]), rest[:told[1]])
                return
        self.assertEqual(caught(Broken, row_at, setup, octets, 1).at, len(octets))

    def test_the_bounds_of_three_octets(self):
        for at, parts in [(1, (15, 66, 64)), (7, (15, 66, 64))]:
            form = row_octets(SETUP, (0, 0, 1, 0, 0, 0, ()))
            self.assertEqual(row_at(SETUP, form[:at] + parts + form[at + 3:], 0)[1], 11)
            for wrong, bad in [(0, (16, 0, 0)), (1, (15, 67, 0)), (2, (15, 66, 65))]:
                self.assertEqual(caught(Broken, row_at, SETUP, form[:at] + bad + form[at + 3:], 0).at, at + wrong)
                self.assertEqual(caught(Broken, row_at, SETUP, form[:at] + bad[:wrong + 1], 0).at, at + wrong)
        form = row_octets(SETUP, ROW)[:11]
        self.assertEqual(row_at(SETUP, form + (30, 132, 128), 0)[0][6], ((2, BOUND),))
        for wrong, bad in [(0, (31, 0, 0)), (1, (30, 133, 0)), (2, (30, 132, 129))]:
            self.assertEqual(caught(Broken, row_at, SETUP, form + bad, 0).at, 11 + wrong)

    def test_no_form_is_the_beginning_of_another_one(self):
        dice = chance(32)
        setup = wide_setup(dice, (2, 0, 9))
        forms = [row_octets(setup, row) for row in rows_at_bounds(dice, setup)]
        for one in forms:
            for other in forms:
                self.assertTrue(one == other or other[:len(one)] != one)

    def test_which_error_comes_first(self):
        for bad in ODD:
            self.assertEqual(caught(BadSetup, row_at, bad, None, None).at, caught(BadSetup, unpacked, bad, None).at)
            if not isinstance(bad, (list, tuple)):
                self.assertEqual(caught(BadOctets, row_at, SETUP, bad, None).at, -1)
                self.assertEqual(caught(BadOctets, unpacked, SETUP, bad).at, -1)
            self.assertEqual(caught(BadOctets, row_at, SETUP, (0, bad, 256), None).at, 1)
            self.assertEqual(caught(BadOctets, unpacked, SETUP, [0, 9, bad]).at, 2)
            if bad is None or isinstance(bad, (bool, str, list, tuple)) or bad == -1:
                self.assertIs(caught(Refused, row_at, SETUP, (255, 255), bad).at, bad)
        self.assertEqual(caught(BadOctets, row_at, SETUP, (0, 256), -1).at, 1)


class Blocks(unittest.TestCase):
    def test_blocks_of_all_lengths(self):
        for dice, setup in some_setups():
            for row in list(rows_at_bounds(dice, setup))[:6]:
                form = row_octets(setup, row)
                for many in range(len(form), len(form) + 40):
                    told = packed(setup, row, many)
                    self.assertEqual(told, form + (0,) * (many - len(form)))
                    self.assertEqual(unpacked(setup, list(told)), row)
                for many in range(len(form)):
                    self.assertEqual(caught(Refused, packed, setup, row, many).at, many)
        self.assertEqual(unpacked(setup=SETUP, octets=packed(setup=SETUP, row=ROW, many=20)), ROW)
        self.assertTrue(all_tuples(unpacked(SETUP, list(row_octets(SETUP, ROW)))))

    def test_an_octet_behind_the_form(self):
        form = row_octets(SETUP, ROW)
        for behind in range(30):
            for octet in (1, 255):
                octets = form + (0,) * behind + (octet,)
                self.assertEqual(caught(Broken, unpacked, SETUP, octets).at, len(form) + behind)
                self.assertEqual(caught(Broken, unpacked, SETUP, octets + (0, 7)).at, len(form) + behind)

    def test_what_is_refused(self):
        for bad in ODD:
            caught(BadSetup, packed, bad, None, None)
            caught(BadFrame, packed, SETUP, bad, None)
            if bad != 10 ** 40:
                self.assertIs(caught(Refused, packed, SETUP, ROW, bad).at, bad)
        self.assertEqual(caught(BadFrame, packed, SETUP, with_part(ROW, 3, 256), -1).at, 3)
        self.assertEqual(caught(Refused, packed, SETUP, ROW, 13).at, 13)

    def test_four_thousand_octets(self):
        setup = wide_setup(chance(3), (16,))
        row = (255, BOUND, 0, 255, 255, BOUND, tuple((channel, -channel) for channel in range(16)))
        octets = soon(self, 1, packed, setup, row, 4000)
        self.assertEqual((len(octets), soon(self, 1, unpacked, setup, octets)), (4000, row))
        self.assertEqual(soon(self, 1, row_at, setup, (9,) * 3900 + octets[:100], 3900), (row, 3960))


if __name__ == "__main__":
    unittest.main()
