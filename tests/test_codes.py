"""Points [27] and [29]: codes, beside the test's own polynomial modulo 257."""

import itertools
import unittest

from plain import ODD, all_tuples, caught, cell_at, chance, with_part
from wrecktold.codes import coded, fits, mended, told_data
from wrecktold.errors import Refused

SIZES = [(count, need) for count in range(2, 9) for need in range(1, count + 1)]


def own_coded(count, need, data):
    return tuple(cell_at(list(enumerate(data)), chip) for chip in range(count))


def some_data(dice, need):
    return tuple(dice.choice((0, 256, dice.randrange(257))) for _ in range(need))


def gone(row, chips):
    """A row without the cells at some chips."""
    return tuple(None if chip in chips else cell for chip, cell in enumerate(row))


def turned(dice, row, chips):
    """A row with another cell at some chips."""
    return tuple((cell + dice.randint(1, 256)) % 257 if chip in chips else cell for chip, cell in enumerate(row))


def through(count, need, row, chips):
    """All cells of the one data that has the row's cells at these chips, `need` of them."""
    points = [(chip, row[chip]) for chip in chips]
    return tuple(cell_at(points, chip) for chip in range(count))


def there(row):
    return [chip for chip, cell in enumerate(row) if cell is not None]


def has_all(whole, row):
    return all(cell is None or cell == whole[chip] for chip, cell in enumerate(row))


class Coding(unittest.TestCase):
    def test_beside_the_own_polynomial(self):
        dice = chance(51)
        for count, need in SIZES:
            for turn in range(6):
                data = some_data(dice, need)
                told = coded(count, need, data)
                self.assertEqual(told, own_coded(count, need, data))
                self.assertEqual(told[:need], data)
                self.assertEqual(coded(count=count, need=need, data=list(data)), told)
                self.assertTrue(all_tuples(told))
        self.assertEqual(coded(4, 2, (5, 7)), (5, 7, 9, 11))
        self.assertEqual(coded(8, 1, (256,)), (256,) * 8)

    def test_any_that_are_enough_tell_the_data(self):
        dice = chance(52)
        for count, need in SIZES:
            data = some_data(dice, need)
            row = coded(count, need, data)
            for many in range(count + 1):
                for lost in itertools.combinations(range(count), many):
                    told = told_data(count, need, gone(row, lost))
                    self.assertEqual(told, data if count - many >= need else None)
                    self.assertIs(fits(count, need, gone(row, lost)), True)

    def test_rows_that_fit_and_such_that_do_not(self):
        dice = chance(53)
        for turn in range(1500):
            count, need = dice.choice(SIZES)
            row = coded(count, need, some_data(dice, need))
            row = turned(dice, row, dice.sample(range(count), dice.randint(0, 2)))
            row = gone(row, dice.sample(range(count), dice.randint(0, count)))
            right = len(there(row)) < need or has_all(through(count, need, row, there(row)[:need]), row)
            self.assertIs(fits(count=count, need=need, row=list(row)), right)
            told = told_data(count=count, need=need, row=list(row))
            if right and len(there(row)) >= need:
                self.assertEqual(coded(count, need, told)[:need], through(count, need, row, there(row)[:need])[:need])
                self.assertTrue(all_tuples(told))
            else:
                self.assertIsNone(told)

    def test_fits_beside_a_trial_of_all_data(self):
        dice = chance(54)
        for turn in range(300):
            count = dice.randint(2, 8)
            row = turned(dice, (dice.randrange(257),) * count, dice.sample(range(count), dice.randint(0, 1)))
            row = gone(row, dice.sample(range(count), 1))
            self.assertIs(fits(count, 1, row), any(has_all((cell,) * count, row) for cell in range(257)))

    def test_further_cells_are_free_till_there_are_enough(self):
        dice = chance(55)
        for turn in range(300):
            count, need = dice.choice(SIZES)
            chips = dice.sample(range(count), need)
            row = tuple(dice.randrange(257) if chip in chips else None for chip in range(count))
            data = told_data(count, need, row)
            self.assertTrue(has_all(coded(count, need, data), row))
            self.assertEqual(data, through(count, need, row, chips)[:need])
        row = (None, 9, None, 200)
        lines = [(a, b) for a in range(257) for b in range(257) if b == 9 and (3 * b - 2 * a) % 257 == 200]
        self.assertEqual(lines, [told_data(4, 2, row)])


class Mending(unittest.TestCase):
    def judge(self, count, need, row, told):
        """Looks whether (data, chips) is such as must be told."""
        data, chips = told
        whole = own_coded(count, need, data)
        self.assertEqual(chips, tuple(chip for chip in there(row) if row[chip] != whole[chip]))
        self.assertLessEqual(2 * len(chips) + need, len(there(row)))
        self.assertTrue(all_tuples(told))

    def test_few_altered_cells(self):
        dice = chance(56)
        for count, need in SIZES:
            for turn in range(10):
                data = some_data(dice, need)
                row = coded(count, need, data)
                lost = dice.sample(range(count), dice.randint(0, count - need))
                left = [chip for chip in range(count) if chip not in lost]
                bent = dice.sample(left, dice.randint(0, (len(left) - need) // 2))
                row = gone(turned(dice, row, bent), lost)
                self.assertEqual(mended(count, need, row), (data, tuple(sorted(bent))))
                self.assertEqual(mended(count=count, need=need, row=list(row)), (data, tuple(sorted(bent))))
                self.judge(count, need, row, mended(count, need, row))

    def test_rows_beside_the_data_that_lots_of_chips_tell(self):
        dice = chance(57)
        told = {True: 0, False: 0}
        for turn in range(700):
            count, need = dice.choice(SIZES)
            row = turned(dice, coded(count, need, some_data(dice, need)), dice.sample(range(count), dice.randint(0, count)))
            row = gone(row, dice.sample(range(count), dice.randint(0, count)))
            right = set()
            for chips in itertools.combinations(there(row), need):
                whole = through(count, need, row, chips)
                wrong = sum(row[chip] != whole[chip] for chip in there(row))
                if 2 * wrong + need <= len(there(row)):
                    right.add(whole[:need])
            self.assertLessEqual(len(right), 1)
            result = mended(count, need, row)
            told[bool(right)] += 1
            if right:
                self.assertEqual(result[0], right.pop())
                self.judge(count, need, row, result)
            else:
                self.assertIsNone(result)
        self.assertTrue(told[True] > 100 and told[False] > 100)

    def test_beside_a_trial_of_all_data(self):
        dice = chance(58)
        for turn in range(200):
            count = dice.randint(2, 8)
            row = tuple(dice.choice((None, 3, 3, 3, 9, 256)) for _ in range(count))
            right = [cell for cell in range(257) if 2 * sum(one not in (None, cell) for one in row) + 1 <= len(there(row))]
            told = mended(count, 1, row)
            self.assertEqual([] if told is None else [told[0][0]], right)
        rows = [(5, 7, 200, 11, 13), (5, 7, 9, None, 1, 15), (1, 2, 4, 8, 16, 32), (None, None, 3, 3, 3, 9, 9, 3)]
        for row in rows:
            right = []
            for a in range(257):
                for b in range(257):
                    wrong = sum(cell is not None and cell != (a + (b - a) * at) % 257 for at, cell in enumerate(row))
                    if 2 * wrong + 2 <= len(there(row)):
                        right.append((a, b))
            told = mended(len(row), 2, row)
            self.assertEqual([] if told is None else [told[0]], right)
        self.assertEqual(mended(4, 2, (5, 7, 200, 11)), ((5, 7), (2,)))

    def test_too_few_or_too_many(self):
        self.assertIsNone(mended(3, 2, (None, 5, None)))
        self.assertIsNone(mended(2, 1, (None, None)))
        self.assertEqual(mended(3, 2, (None, 5, 7)), ((3, 5), ()))
        self.assertIsNone(mended(3, 2, (5, 7, 8)))
        self.assertIsNone(mended(2, 1, (5, 7)))
        self.assertEqual(mended(3, 1, (5, 7, 7)), ((7,), (0,)))
        self.assertEqual(mended(8, 8, (1, 2, 3, 4, 5, 6, 7, 8)), ((1, 2, 3, 4, 5, 6, 7, 8), ()))


class Wrong(unittest.TestCase):
    def test_counts_and_needs(self):
        for call in (coded, fits, told_data, mended):
            for bad in [*ODD, 0, 1, 9, -2]:
                self.assertIs(caught(Refused, call, bad, None, None).at, bad)
                self.assertIs(caught(Refused, call, bad, 1, (3, 3)).at, bad)
            for bad in [*ODD, 0, 4, 9]:
                self.assertIs(caught(Refused, call, 3, bad, None).at, bad)
            self.assertEqual(caught(Refused, call, 2, 3, (1, 2)).at, 3)

    def test_data_and_rows(self):
        no_cells = [part for part in ODD if not isinstance(part, int) or isinstance(part, bool)] + [-1, 257, 10 ** 40]
        for bad in [*ODD, (1,), (1, 2, 3), (1, None)]:
            if bad != (0, 0):
                self.assertIs(caught(Refused, coded, 3, 2, bad).at, bad)
        for call in (fits, told_data, mended):
            for bad in [*ODD, (1, 2), (1, 2, 3, 4), {0: 1, 1: 2, 2: 3}]:
                self.assertIs(caught(Refused, call, 3, 2, bad).at, bad)
        for part in no_cells:
            for at in range(2):
                bad = with_part((1, 2), at, part)
                self.assertIs(caught(Refused, coded, 4, 2, bad).at, bad)
        for part in no_cells:
            if part is not None:
                for call in (fits, told_data, mended):
                    bad = with_part((None, 2, 3), 1, part)
                    self.assertIs(caught(Refused, call, 3, 2, bad).at, bad)


if __name__ == "__main__":
    unittest.main()
