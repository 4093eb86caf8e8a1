"""Point [37]: chips, beside plain slots of the test's own."""

import unittest

from plain import ODD, all_tuples, caught, chance, soon
from wrecktold.chips import Chips
from wrecktold.errors import Cut, Refused

NO_STEPS = [part for part in ODD if part not in (None, 10 ** 40)]
NO_PIECE = [
    *(part for part in ODD if part != (1, (0, 0, 0))), (1,), (1, (), 0), (-1, ()), (10 ** 9, ()), (True, ()), (None, ()), ((), 1), (1, None), (1, "a"), (1, {0: 1}), (1, (257,)),
    (1, (0, -1)), (1, (0, True)), (1, (0, None)), (1, [0, "1"]), (1, 5), "ab",
]


def told_of(chips):
    return chips.many, chips.slots, chips.steps, chips.memory(), [chips.is_lost(chip) for chip in range(chips.many)]


class Writing(unittest.TestCase):
    def test_nothing_in_it_at_first(self):
        chips = Chips(3, 2)
        self.assertEqual((chips.many, chips.slots, chips.steps), (3, 2, None))
        self.assertEqual(chips.memory(), ((None, None),) * 3)
        self.assertEqual([chips.is_lost(chip) for chip in range(3)], [False] * 3)
        self.assertEqual(Chips(many=8, slots=64, steps=5).steps, 5)
        self.assertEqual(Chips(1, 1, steps=0).memory(), ((None,),))
        with self.assertRaises(TypeError):
            Chips(1, 1, 5)

    def test_beside_own_slots(self):
        dice = chance(91)
        cuts = 0
        for turn in range(60):
            many, slots = dice.randint(1, 8), dice.randint(1, 6)
            chips = Chips(many, slots)
            lying = [[None] * slots for _ in range(many)]
            steps = None
            for step in range(60):
                chip, slot = dice.randrange(many), dice.randrange(slots)
                word = dice.choice(("write",) * 8 + ("give", "lose", "twin"))
                if word == "write":
                    cells = tuple(dice.randrange(257) for _ in range(dice.randint(0, 4)))
                    piece = (dice.choice((0, 10 ** 9 - 1, dice.randrange(99))), cells)
                    passed = dice.choice((piece, [piece[0], list(cells)]))
                    if lying[chip] is None:
                        self.assertIsNone(chips.write(chip, slot, passed))
                    elif steps == 0:
                        self.assertEqual(caught(Cut, chips.write, chip, slot, passed).args, ())
                        lying[chip][slot] = "torn"
                        cuts += 1
                    else:
                        self.assertIsNone(chips.write(chip=chip, slot=slot, piece=passed))
                        lying[chip][slot] = piece
                        steps = None if steps is None else steps - 1
                if word == "give":
                    steps = dice.choice((None, 0, 1, 7, 10 ** 9))
                    self.assertIsNone(chips.give(steps=steps))
                if word == "lose" and dice.random() < 0.3:
                    self.assertIsNone(chips.lose(chip=chip))
                    lying[chip] = None
                if word == "twin":
                    other, was = chips.twin(), told_of(chips)
                    self.assertEqual(told_of(other), (many, slots, None, chips.memory(), was[4]))
                    other.write(chip, slot, (5, (1, 2, 3)))
                    other.lose(dice.randrange(many))
                    self.assertEqual(told_of(chips), was)
                self.assertEqual(chips.steps, steps)
                self.assertEqual(chips.memory(), tuple(None if row is None else tuple(row) for row in lying))
                self.assertTrue(all_tuples(chips.memory()))
                self.assertEqual(chips.read(chip=chip, slot=slot), None if lying[chip] is None else lying[chip][slot])
                self.assertIs(chips.is_lost(chip=chip), lying[chip] is None)
        self.assertGreater(cuts, 50)

    def test_a_write_is_a_step_and_a_cut_leaves_it_torn(self):
        chips = Chips(2, 2, steps=2)
        chips.write(0, 0, (3, [1, 256]))
        self.assertEqual((chips.steps, chips.read(0, 0)), (1, (3, (1, 256))))
        chips.write(0, 0, (4, ()))
        self.assertEqual((chips.steps, chips.read(0, 0)), (0, (4, ())))
        for turn in range(2):
            self.assertIsInstance(caught(Cut, chips.write, 0, 0, (5, (1,))), Cut)
            self.assertEqual((chips.steps, chips.memory()), (0, (("torn", None), (None, None))))
        chips.lose(0)
        chips.write(0, 1, (5, (1,)))
        self.assertEqual((chips.steps, chips.memory(), chips.read(0, 0)), (0, (None, (None, None)), None))
        chips.give(None)
        chips.write(0, 1, (5, (1,)))
        chips.write(1, 1, (5, (1,)))
        chips.lose(0)
        self.assertEqual((chips.steps, chips.memory()), (None, (None, (None, (5, (1,))))))
        chips.give(1)
        chips.write(0, 0, (6, ()))
        self.assertEqual(chips.steps, 1)

    def test_later_changes_have_no_effect(self):
        chips, cells = Chips(1, 1), [1, 2]
        chips.write(0, 0, (3, cells))
        cells.append(9)
        self.assertEqual(chips.read(0, 0), (3, (1, 2)))

    def test_up_to_the_limits(self):
        def fill():
            chips = Chips(8, 64, steps=10 ** 9)
            for chip in range(8):
                for slot in range(64):
                    chips.write(chip, slot, (10 ** 9 - 1, (256,) * 1000))
            return chips.twin().memory(), chips.steps
        memory, steps = soon(self, 3, fill)
        self.assertEqual((memory, steps), ((((10 ** 9 - 1, (256,) * 1000),) * 64,) * 8, 10 ** 9 - 512))


class Wrong(unittest.TestCase):
    def test_numbers_of_chips_slots_and_steps(self):
        for bad in [*ODD, 0, 9]:
            self.assertIs(caught(Refused, Chips, bad, None, steps=-1).at, bad)
        for bad in [*ODD, 0, 65]:
            self.assertIs(caught(Refused, Chips, 8, bad, steps=-1).at, bad)
        for bad in NO_STEPS:
            self.assertIs(caught(Refused, Chips, 8, 64, steps=bad).at, bad)

    def test_what_is_refused_changes_nothing(self):
        chips = Chips(3, 4)
        chips.write(1, 2, (3, (4,)))
        chips.lose(2)
        for steps in (0, 5):
            chips.give(steps)
            was = told_of(chips)
            for bad in [*ODD, 3, -1]:
                for call, rest in [(chips.is_lost, ()), (chips.lose, ()), (chips.read, (None,)), (chips.write, (None, None))]:
                    self.assertIs(caught(Refused, call, bad, *rest).at, bad)
            for chip in (0, 2):
                for bad in [*ODD, 4, -1]:
                    self.assertIs(caught(Refused, chips.read, chip, bad).at, bad)
                    self.assertIs(caught(Refused, chips.write, chip, bad, None).at, bad)
                for bad in NO_PIECE:
                    self.assertIs(caught(Refused, chips.write, chip, 3, bad).at, bad)
            for bad in NO_STEPS:
                self.assertIs(caught(Refused, chips.give, bad).at, bad)
            self.assertEqual(told_of(chips), was)


if __name__ == "__main__":
    unittest.main()
