"""Points [30] to [32]: rings of slots, beside blocks laid one by one."""

import itertools
import unittest

from plain import ODD, all_tuples, caught, chance, soon, with_part
from wrecktold.errors import Refused
from wrecktold.slots import goes_on, is_ring_row, most_looks, newest, ring_row, slot_of, torn_row

NO_NUMBER = [part for part in ODD if part != 10 ** 40]


class Watched(tuple):
    """A row that keeps in mind which of its slots were looked at."""

    def __new__(cls, row):
        made = super().__new__(cls, row)
        made.looks = []
        return made

    def __getitem__(self, at):
        self.looks.append(at)
        return super().__getitem__(at)

    def __iter__(self):
        raise AssertionError("all slots are looked at")


def laid(many, count):
    """The row behind blocks that are laid one by one."""
    row = [None] * many
    for block in range(count):
        row[block % many] = block
    return tuple(row)


def cut(many, count):
    return tuple(with_part(laid(many, count), count % many, "torn"))


def counts_for(many):
    return [*range(3 * many + 2), 1000]


class Rows(unittest.TestCase):
    def test_blocks_laid_one_by_one(self):
        for many in (2, 3, 4, 5, 8, 17, 63, 64):
            for count in counts_for(many):
                self.assertEqual(ring_row(many, count), laid(many, count))
                self.assertEqual(torn_row(many, count), cut(many, count))
                self.assertEqual(slot_of(many, count), count % many)
                self.assertTrue(all_tuples((ring_row(many, count), torn_row(many, count))))
        self.assertEqual(ring_row(many=5, count=13), (10, 11, 12, 8, 9))
        self.assertEqual(torn_row(many=5, count=13), (10, 11, 12, "torn", 9))
        self.assertEqual(torn_row(3, 0), ("torn", None, None))
        self.assertEqual(slot_of(many=64, number=10 ** 6), 10 ** 6 % 64)

    def test_each_row_is_told(self):
        for many in (2, 3, 4, 5, 8, 17, 63, 64):
            for count in counts_for(many):
                for row in (laid(many, count), cut(many, count)):
                    self.assertIs(is_ring_row(row), True)
                    self.assertIs(is_ring_row(value=list(row)), True)

    def test_all_small_rows(self):
        for many in (2, 3, 4):
            right = {row for count in range(20) for row in (laid(many, count), cut(many, count))}
            for row in itertools.product([None, "torn", *range(10)], repeat=many):
                self.assertIs(is_ring_row(row), row in right, row)

    def test_rows_bent_at_a_slot(self):
        dice = chance(71)
        for turn in range(600):
            many = dice.randint(2, 64)
            count = dice.randint(0, 3 * many)
            row = dice.choice((laid, cut))(many, count)
            bent = tuple(with_part(row, dice.randrange(many), dice.choice((None, "torn", dice.randrange(3 * many)))))
            right = any(bent in (laid(many, other), cut(many, other)) for other in range(max(0, count - 1), count + 2))
            right = right or bent[0] not in (None, "torn") and bent in (laid(many, bent[0] + 1), cut(many, bent[0] + 1))
            self.assertIs(is_ring_row(bent), right, bent)

    def test_any_value(self):
        for bad in [*ODD, (0,), (None,), (0,) * 65, laid(65, 70), (None,) * 65, "01", {0: 0, 1: 1}]:
            self.assertIs(is_ring_row(bad), False)
        for part in ODD:
            if part is not None:
                self.assertIs(is_ring_row((0, part)), False)
                self.assertIs(is_ring_row((part, None)), False)
        for row in [(0, True), (False, 1), (False, None), (0, "TORN"), (0, ("torn",)), (0, -1), (10 ** 40, 10 ** 40 + 1)]:
            self.assertIs(is_ring_row(row), row == (10 ** 40, 10 ** 40 + 1))

    def test_what_is_refused(self):
        for call in (slot_of, ring_row, torn_row):
            for bad in [*ODD, 0, 1, 65]:
                self.assertIs(caught(Refused, call, bad, None).at, bad)
                self.assertIs(caught(Refused, most_looks, bad).at, bad)
            for bad in NO_NUMBER:
                self.assertIs(caught(Refused, call, 2, bad).at, bad)

    def test_a_million_blocks(self):
        row = soon(self, 1, ring_row, 64, 10 ** 6)
        self.assertEqual(sorted(row), list(range(10 ** 6 - 64, 10 ** 6)))
        self.assertIs(soon(self, 1, is_ring_row, row), True)
        self.assertEqual(soon(self, 1, goes_on, soon(self, 1, torn_row, 64, 10 ** 6)), (0, 10 ** 6))


class Newest(unittest.TestCase):
    def test_what_is_told(self):
        for many in range(2, 65):
            for count in counts_for(many):
                for row in (laid(many, count), cut(many, count)):
                    last, number, looks = newest(row)
                    self.assertEqual((last, number), (count - 1 if count else None, count))
                    self.assertEqual(goes_on(list(row)), (count % many, count))
                    self.assertLessEqual(len(looks), most_looks(many))
                    self.assertEqual(looks, self.own_looks(row))
                    self.assertEqual(newest(row=list(row)), (last, number, looks))
        self.assertTrue(all_tuples(newest([0, 1])))

    def own_looks(self, row):
        if row[0] is None:
            return (0,)
        if row[0] == "torn":
            return 0, len(row) - 1
        looks = [0]
        here, beyond = 0, len(row)
        while beyond - here > 1:
            looks.append((here + beyond) // 2)
            if row[looks[-1]] == row[0] + looks[-1]:
                here = looks[-1]
            else:
                beyond = looks[-1]
        return tuple(looks)

    def test_nothing_else_is_looked_at(self):
        dice = chance(72)
        for many in (2, 3, 5, 8, 31, 64):
            for count in counts_for(many):
                for row in (laid(many, count), cut(many, count)):
                    told = newest(row)
                    for turn in range(3):
                        bent = Watched(
                            part if at in told[2] else dice.choice((None, "torn", 7, count, "junk", (1,), at))
                            for at, part in enumerate(row)
                        )
                        self.assertEqual(newest(bent), told)
                        self.assertEqual(bent.looks, list(told[2]))
                        self.assertEqual(goes_on(bent), (count % many, count))
                        self.assertEqual(bent.looks, list(told[2]) * 2)
        self.assertEqual(newest((None, 7, 7)), (None, 0, (0,)))

    def test_the_most_looks(self):
        told = [1 + next(power for power in range(9) if 2 ** power >= many) for many in range(2, 65)]
        self.assertEqual([most_looks(many=many) for many in range(2, 65)], told)
        for many in range(2, 65):
            longest = max(len(newest(row)[2]) for count in counts_for(many) for row in (laid(many, count), cut(many, count)))
            self.assertEqual(longest, most_looks(many))

    def test_fewer_looks_are_not_enough(self):
        for many in range(2, 12):
            for first in range(many):
                shown = 2 * many + first
                rows = [laid(many, count) for count in range(5 * many) if laid(many, count)[first] == shown]
                self.assertEqual(len(rows), many)
                for slot in range(many):
                    self.assertLessEqual(len({row[slot] for row in rows}), 2)


if __name__ == "__main__":
    unittest.main()
