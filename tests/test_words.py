"""Point [5]: octets."""

import unittest

from plain import ODD, caught
from wrecktold.errors import BadOctets
from wrecktold.words import need_octets


class Octets(unittest.TestCase):
    def test_octets_are_told_as_a_tuple(self):
        self.assertEqual(need_octets([]), ())
        self.assertEqual(need_octets([0, 255, 1]), (0, 255, 1))
        self.assertEqual(need_octets(value=(3, 4)), (3, 4))
        self.assertIs(need_octets([9]).__class__, tuple)

    def test_what_is_no_sequence(self):
        for value in ODD:
            if not isinstance(value, (list, tuple)):
                self.assertEqual(caught(BadOctets, need_octets, value).at, -1)

    def test_the_first_item_that_is_none_is_told(self):
        for bad in [*ODD, 256, -1]:
            self.assertEqual(caught(BadOctets, need_octets, [bad, 0]).at, 0)
            self.assertEqual(caught(BadOctets, need_octets, (0, 255, bad, bad, 1)).at, 2)

    def test_the_argument_is_left_alone(self):
        value = [1, 2]
        told = need_octets(value)
        value.append(3)
        self.assertEqual(told, (1, 2))


if __name__ == "__main__":
    unittest.main()
