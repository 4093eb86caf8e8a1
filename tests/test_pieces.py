"""Points [28] and [29]: octets as pieces, beside pieces of the test's own polynomial."""

import itertools
import unittest

from plain import ODD, all_tuples, caught, cell_at, chance, own_pieces, some_octets, soon, with_part
from wrecktold.errors import BadOctets, Refused
from wrecktold.pieces import mended_pieces, octets_of, pieces_fit, pieces_of

SIZES = [(count, need) for count in range(2, 9) for need in range(1, count + 1)]
NO_OCTET = [part for part in ODD if not isinstance(part, int) or isinstance(part, bool)] + [-1, 256, 10 ** 40]
NO_CELL = [part for part in NO_OCTET if part != 256] + [257]


def gone(pieces, chips):
    return tuple(None if chip in chips else piece for chip, piece in enumerate(pieces))


def turned(dice, pieces, chips, most=3):
    """Pieces with up to so many cells altered at some chips, one at least."""
    told = []
    for chip, piece in enumerate(pieces):
        if chip in chips:
            for at in dice.sample(range(len(piece)), dice.randint(1, min(most, len(piece)))):
                piece = tuple(with_part(piece, at, (piece[at] + dice.randint(1, 256)) % 257))
        told.append(piece)
    return tuple(told)


def there(pieces):
    return [chip for chip, piece in enumerate(pieces) if piece is not None]


def through(count, cells, pieces, chips):
    """All pieces of the one data that has the pieces at these chips, as many as are needed."""
    columns = [[(chip, pieces[chip][at]) for chip in chips] for at in range(cells)]
    return tuple(tuple(cell_at(column, chip) for column in columns) for chip in range(count))


def agree(need, cells, pieces):
    chips = there(pieces)
    if len(chips) <= need:
        return True
    whole = through(len(pieces), cells, pieces, chips[:need])
    return all(pieces[chip] == whole[chip] for chip in chips)


class Pieces(unittest.TestCase):
    def test_beside_the_own_polynomial(self):
        dice = chance(61)
        for count, need in SIZES:
            for cells in (1, 2, dice.randint(3, 6)):
                for octets in [(), (0,), (255,) * need * cells, (0,) * (need * cells - 1), some_octets(dice, need * cells)]:
                    told = pieces_of(count, need, cells, octets)
                    self.assertEqual(told, own_pieces(count, need, cells, octets))
                    self.assertTrue(all_tuples(told))
                    self.assertEqual(pieces_of(count=count, need=need, cells=cells, octets=list(octets)), told)
        self.assertEqual(pieces_of(3, 2, 2, (1, 2, 3)), ((1, 3), (2, 256), (3, 252)))
        self.assertEqual(pieces_of(3, 2, 2, ()), ((256, 256),) * 3)

    def test_any_that_are_enough_tell_the_octets(self):
        dice = chance(62)
        for count, need in SIZES:
            cells = dice.randint(1, 4)
            for octets in [(), (0,) * need * cells, some_octets(dice, need * cells), (255,) * (need * cells - 1)]:
                pieces = pieces_of(count, need, cells, octets)
                for many in range(count + 1):
                    for lost in itertools.combinations(range(count), many):
                        left = gone(pieces, lost)
                        self.assertIs(pieces_fit(count, need, cells, left), True)
                        if count - many >= need:
                            self.assertEqual(octets_of(count, need, cells, left), octets)
                        else:
                            self.assertIs(caught(Refused, octets_of, count, need, cells, left).at, left)

    def test_those_that_fit_and_those_that_do_not(self):
        dice = chance(63)
        for turn in range(400):
            count, need = dice.choice(SIZES)
            cells = dice.randint(1, 4)
            pieces = pieces_of(count, need, cells, some_octets(dice, need * cells))
            pieces = turned(dice, pieces, dice.sample(range(count), dice.randint(0, 1)))
            pieces = gone(pieces, dice.sample(range(count), dice.randint(0, count)))
            right = agree(need, cells, pieces)
            lists = [None if piece is None else list(piece) for piece in pieces]
            self.assertIs(pieces_fit(count=count, need=need, cells=cells, pieces=lists), right)
            if len(there(pieces)) < need or not right:
                self.assertIs(caught(Refused, octets_of, count, need, cells, pieces).at, pieces)
                continue
            whole = through(count, cells, pieces, there(pieces)[:need])
            flat = [cell for column in zip(*whole[:need]) for cell in column]
            octets = flat[:flat.index(256)] if 256 in flat else flat
            if flat == octets + [256] * (need * cells - len(octets)):
                told = octets_of(count=count, need=need, cells=cells, pieces=lists)
                self.assertEqual(told, tuple(octets))
                self.assertTrue(all_tuples(told))
            else:
                self.assertIs(caught(Refused, octets_of, count, need, cells, lists).at, lists)

    def test_cells_of_256_amid_octets_and_behind_them(self):
        for cells in [(256, 1), (256, 256, 3), (1, 256, 256, 7), (256, 0, 256, 256), (256,) * 5 + (9,)]:
            for need in (1, 2, 3):
                if len(cells) % need == 0:
                    data = tuple(cells[at::need] for at in range(need))
                    columns = [list(enumerate(column)) for column in zip(*data)]
                    pieces = [tuple(cell_at(column, chip) for column in columns) for chip in range(4)]
                    self.assertIs(pieces_fit(4, need, len(cells) // need, pieces), True)
                    self.assertIs(caught(Refused, octets_of, 4, need, len(cells) // need, pieces).at, pieces)
        self.assertEqual(octets_of(3, 2, 2, [None, (2, 256), (3, 252)]), (1, 2, 3))
        self.assertEqual(octets_of(2, 1, 3, [(256, 256, 256), None]), ())
        self.assertEqual(octets_of(2, 1, 3, [(7, 256, 256), None]), (7,))
        self.assertEqual(octets_of(2, 1, 3, [None, (7, 0, 255)]), (7, 0, 255))

    def test_pieces_to_the_greatest_length(self):
        dice = chance(64)
        for count, need in [(2, 1), (8, 1), (8, 4), (8, 7), (8, 8)]:
            for many in (1000 * need, 1000 * need - 1, 0):
                octets = tuple(dice.randrange(256) for _ in range(many))
                pieces = soon(self, 1, pieces_of, count, need, 1000, octets)
                self.assertEqual({len(piece) for piece in pieces}, {1000})
                left = gone(pieces, range(count - need))
                self.assertEqual(soon(self, 1, octets_of, count, need, 1000, left), octets)
                self.assertIs(soon(self, 1, pieces_fit, count, need, 1000, pieces), True)
            long = (3,) * (1000 * need + 1)
            self.assertIs(caught(Refused, pieces_of, count, need, 1000, long).at, long)


class Mending(unittest.TestCase):
    def test_few_altered_pieces(self):
        dice = chance(65)
        for count, need in SIZES:
            for turn in range(6):
                cells = dice.randint(1, 4)
                whole = pieces_of(count, need, cells, some_octets(dice, need * cells))
                lost = dice.sample(range(count), dice.randint(0, count - need))
                left = [chip for chip in range(count) if chip not in lost]
                bent = dice.sample(left, dice.randint(0, (len(left) - need) // 2))
                pieces = gone(turned(dice, whole, bent), lost)
                told = mended_pieces(count, need, cells, pieces)
                self.assertEqual(told, (whole, tuple(sorted(bent))))
                self.assertTrue(all_tuples(told))
                lists = [None if piece is None else list(piece) for piece in pieces]
                self.assertEqual(mended_pieces(count=count, need=need, cells=cells, pieces=lists), told)

    def test_beside_the_data_that_lots_of_chips_tell(self):
        dice = chance(66)
        told = {True: 0, False: 0}
        for turn in range(250):
            count, need = dice.choice(SIZES)
            cells = dice.randint(1, 3)
            pieces = pieces_of(count, need, cells, some_octets(dice, need * cells))
            pieces = turned(dice, pieces, dice.sample(range(count), dice.randint(0, count)))
            pieces = gone(pieces, dice.sample(range(count), dice.randint(0, count)))
            right = set()
            for chips in itertools.combinations(there(pieces), need):
                whole = through(count, cells, pieces, chips)
                wrong = tuple(chip for chip in there(pieces) if pieces[chip] != whole[chip])
                if 2 * len(wrong) + need <= len(there(pieces)):
                    right.add((whole, wrong))
            self.assertLessEqual(len(right), 1)
            told[bool(right)] += 1
            self.assertEqual(mended_pieces(count, need, cells, pieces), right.pop() if right else None)
        self.assertTrue(told[True] > 50 and told[False] > 50)

    def test_pieces_altered_as_a_whole(self):
        self.assertEqual(mended_pieces(3, 1, 1, [(9,), (9,), (8,)]), (((9,), (9,), (9,)), (2,)))
        self.assertIsNone(mended_pieces(3, 2, 1, [(9,), (9,), (8,)]))
        # Each cell by itself could be mended, the pieces cannot: two chips are altered.
        pieces = [(1, 5), (9, 2), (1, 2)]
        self.assertIsNone(mended_pieces(3, 1, 2, pieces))
        self.assertEqual(mended_pieces(3, 1, 2, [(1, 2), (9, 8), (1, 2)]), (((1, 2),) * 3, (1,)))
        self.assertEqual(mended_pieces(2, 1, 2, [None, (256, 3)]), (((256, 3),) * 2, ()))
        self.assertIsNone(mended_pieces(2, 1, 2, [None, None]))

    def test_a_thousand_cells(self):
        dice = chance(67)
        for need in (1, 2, 3, 4, 8):
            whole = pieces_of(8, need, 1000, tuple(dice.randrange(256) for _ in range(1000 * need)))
            for bent in [range((8 - need) // 2), range(8 - (8 - need) // 2, 8)]:
                # A piece that differs in its last cell alone is found late.
                pieces = [(*piece[:-1], (piece[-1] + 1) % 257) if chip in bent else piece for chip, piece in enumerate(whole)]
                self.assertEqual(soon(self, 2, mended_pieces, 8, need, 1000, pieces), (whole, tuple(bent)))
            if need < 8:
                many = (8 - need) // 2 + 1
                pieces = [(*piece[:-1], (piece[-1] + 7 ** chip) % 257) if chip < many else piece for chip, piece in enumerate(whole)]
                self.assertIsNone(soon(self, 2, mended_pieces, 8, need, 1000, pieces))


class Wrong(unittest.TestCase):
    def test_counts_needs_and_cells(self):
        for call in (pieces_of, pieces_fit, octets_of, mended_pieces):
            for bad in [*ODD, 0, 1, 9]:
                self.assertIs(caught(Refused, call, bad, None, None, None).at, bad)
            for bad in [*ODD, 0, 4]:
                self.assertIs(caught(Refused, call, 3, bad, None, None).at, bad)
            for bad in [*ODD, 0, 1001]:
                self.assertIs(caught(Refused, call, 3, 2, bad, None).at, bad)

    def test_octets(self):
        for bad in ODD:
            if not isinstance(bad, (list, tuple)):
                self.assertEqual(caught(BadOctets, pieces_of, 3, 2, 1, bad).at, -1)
        for bad in NO_OCTET:
            self.assertEqual(caught(BadOctets, pieces_of, 3, 2, 9, (0, 255, bad, bad)).at, 2)
            self.assertEqual(caught(BadOctets, pieces_of, 3, 2, 1, [0, 0, 0, bad]).at, 3)
        for bad in [(1, 2, 3), [0] * 9]:
            self.assertIs(caught(Refused, pieces_of, 3, 2, 1, bad).at, bad)

    def test_pieces(self):
        pieces = ((1, 3), None, (3, 252))
        for call in (pieces_fit, octets_of, mended_pieces):
            for bad in [*ODD, pieces[:2], pieces + (None,), ((1,), None, (3,)), ((1, 2, 3),) * 3, (1, 2, 3)]:
                if bad != pieces:
                    self.assertIs(caught(Refused, call, 3, 2, 2, bad).at, bad)
            for part in [*ODD, (1,), (1, 2, 3), "ab", {0: 1, 1: 2}]:
                if part is not None and part != (0, 0):
                    bad = with_part(pieces, 1, part)
                    self.assertIs(caught(Refused, call, 3, 2, 2, bad).at, bad)
            for cell in NO_CELL:
                bad = with_part(pieces, 2, (0, cell))
                self.assertIs(caught(Refused, call, 3, 2, 2, bad).at, bad)


if __name__ == "__main__":
    unittest.main()
