"""The examples of the document, with just the answers that stand there."""

import doctest
import pathlib
import unittest

README = pathlib.Path(__file__).resolve().parent.parent / "README.md"

EXAMPLES = '''
    >>> from wrecktold.forms import healing, read_rows, read_value, value_length, write_row, write_value
    >>> write_value([None, -3, "ab"]), value_length(256 ** 2)
    ((4, 1, 3, 0, 2, 1, 2, 3, 1, 2, 0, 1), 5)
    >>> octets = write_row(("kept", (None, 3))) + (4, 1, 2, 3)
    >>> read_value((9, 9) + octets, 2), read_rows(octets), healing(octets)
    ((('kept', (None, 3)), 19), ((('kept', (None, 3)),), 17), (0, 0))

    >>> from wrecktold.differences import implied, met, solved, span, table, thinned, within
    >>> system = (3, ((0, 1, 2), (1, 2, -1), (2, 0, 0), (0, 2, 5)))
    >>> solved(system), span(system, 0, 1), met(system, 0, 1, 3), implied(system, (0, 2, 1)), thinned(system)
    (('values', (-1, 0, -1)), (1, 2), None, True, (0, 1, 2))
    >>> table((2, ((0, 1, 4),))), within(system, (3, [(0, 2, 1)])), solved((1, ((0, 0, -1),)))
    (((0, 4), (None, 0)), True, ('ring', (0,)))
    >>> from wrecktold.edits import Bounds
    >>> some = Bounds(1)
    >>> some.grow(), some.lay((0, 1, 3)), some.lay((1, 0, -4)), some.can([(1, 0, -3)]), some.ring_with([(1, 0, -4)]), some.span(0, 1)
    (1, ('laid', 0), ('ring', ('new', 0)), True, (('new', 0), 0), (None, 3))

    >>> from wrecktold.clocks import bounds_of, course_faults, course_holds
    >>> from wrecktold.setups import check_rows, readings_of
    >>> setup = (((2, 3, 0, 1, 1, 9), (1, 2, 0, 0, 2, 9)), (1, 1), ((0, 5), (1, None)))
    >>> rows = ((0, 4, 0, 0, 7, 1, ((0, 10),)), (0, 6, 1, 0, 0, 3, ((1, 1),)), (0, 8, 0, 0, 8, 3, ((0, 25),)))
    >>> readings_of(rows, 0), bounds_of(setup, rows)[3], bounds_of(setup, rows)[6]
    (((0, 10), (2, 25)), (('clock', 0, 2), ((0, 4, 6), (4, 0, -4))), (('rate', 0, 2, 0), ((4, 0, -3),)))
    >>> course_holds(setup, rows, ((4, 4), (6, 6), (8, 8))), course_faults(setup, rows, ((3, 4), (5, 6), (6, 8)))
    (True, (('clock', 0, 2), ('way', 1, 1), ('way', 2, 2)))

    >>> from wrecktold.numbers import ahead_counts, counts, doubt_span, missing, missing_sums, run_between, run_holds
    >>> source = (1, 1, 0, 0, 2, 5)
    >>> counts(source, (250, 100), (3, 130)), counts(source, (0, 0), (0, 1500)), ahead_counts(source, (7, 600))
    ((9,), (512,), (7, 263))
    >>> doubt_span(source), run_between(source, (255, 10), (2, 20), 3), run_holds(source, [(255, 10), (0, 16)])
    (854, ((255, 10), (0, 13), (1, 16), (2, 20)), False)
    >>> setup = ([source], (1, 1), [(0, None)])
    >>> rows = [(0, 0, 0, 0, 4, 50, ()), (0, 9, 0, 0, 7, 59, ()), (0, 30, 0, 0, 7, 80, ())]
    >>> missing(setup, rows), missing_sums(setup, rows[:2], 0)
    (((0, 1, (2,)), (1, 2, ())), (2,))

    >>> from wrecktold.tents import highest, many_above, values_at
    >>> highest((0, 3, 2, 5)), values_at((0, 3, 2, 5), 2), many_above((3, 4, 2, 4), 2)
    (6, (-3, 4), (2, 5))
'''


class Examples(unittest.TestCase):
    def run_text(self, text):
        """How many examples of a text were tried, all having told their answers."""
        test = doctest.DocTestParser().get_doctest(text, {}, "examples", None, 0)
        told = []
        result = doctest.DocTestRunner(verbose=False).run(test, out=told.append)
        self.assertEqual(result.failed, 0, "".join(told))
        return result.attempted

    def test_each_answer(self):
        self.assertGreater(self.run_text(EXAMPLES), 25)

    def test_those_of_the_readme(self):
        self.assertGreater(self.run_text(README.read_text()), 3)


if __name__ == "__main__":
    unittest.main()
