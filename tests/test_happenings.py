"""Point [44]: happenings of rows, their numbers and times."""

import unittest

from plain import ODD, all_tuples, caught, chance, flight, some_setup
from wrecktold.clocks import heard, sent
from wrecktold.errors import NoHappening
from wrecktold.happenings import happenings, need_happening, time_of, variable

NO_HAPPENING = [
    *ODD, ("sent",), ("sent", 0, 0), ("sent", 3), ("heard", 3), ("sent", -1), ("sent", True), ("heard", False), ("sent", None),
    ("sent", "0"), ("Sent", 0), ("", 0), (None, 0), (0, "sent"), (("sent",), 0), "ab", {0: "sent", 1: 0}, ("sent", 10 ** 40),
]


class Happenings(unittest.TestCase):
    def test_their_numbers_and_times(self):
        dice = chance(131)
        for turn in range(60):
            rows, course = flight(dice, some_setup(dice))
            told = happenings(rows=list(rows))
            self.assertTrue(all_tuples(told))
            self.assertEqual(len(told), 2 * len(rows))
            for at, happening in enumerate(told):
                word, place = happening
                self.assertEqual(at, sent(place) if word == "sent" else heard(place))
                self.assertEqual(need_happening(rows=rows, value=list(happening)), happening)
                self.assertIs(need_happening(rows, list(happening)).__class__, tuple)
                self.assertEqual(variable(rows=rows, happening=happening), at)
                self.assertEqual(variable(list(rows), list(happening)), at)
                self.assertEqual(time_of(course=course, happening=happening), course[place][word == "heard"])
                self.assertEqual(time_of([list(pair) for pair in course], list(happening)), course[place][word == "heard"])
        self.assertEqual(happenings((None, None)), (("sent", 0), ("heard", 0), ("sent", 1), ("heard", 1)))
        self.assertEqual(happenings([]), ())

    def test_any_value_that_is_none(self):
        for bad in NO_HAPPENING:
            for rows in [((0, 1), (2, 3), (4, 5)), [(0, 1), (2, 3), (4, 5)]]:
                for call in (need_happening, variable, time_of):
                    self.assertIs(caught(NoHappening, call, rows, bad).value, bad)
        for call in (need_happening, variable, time_of):
            self.assertEqual(caught(NoHappening, call, (), ("sent", 0)).value, ("sent", 0))

    def test_no_look_at_the_form_of_rows(self):
        rows = (None, "abc", (1,), [], 7)
        self.assertEqual(len(happenings(rows)), 10)
        self.assertEqual(need_happening(rows, ["heard", 4]), ("heard", 4))
        self.assertEqual((variable(rows, ("sent", 4)), variable(rows, ("heard", 0))), (8, 1))
        self.assertEqual(time_of((("a", None), (3, 4)), ("heard", 0)), None)
        self.assertEqual(time_of(((1, 2), (3, 4)), ("sent", 1)), 3)
        self.assertEqual(len(happenings([None] * 1000)), 2000)


if __name__ == "__main__":
    unittest.main()
