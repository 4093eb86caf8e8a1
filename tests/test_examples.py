"""The examples of the document, with just the answers that stand there."""

import doctest
import pathlib
import unittest

README = pathlib.Path(__file__).resolve().parent.parent / "README.md"

EXAMPLES = '''
    >>> from wrecktold.forms import healing, read_rows, read_value, value_length, write_row, write_value
    >>> write_value([None, -3, "ab"]), value_length(256 ** 2)
    ((4, 1, 3, 0, 2, 1, 2, 3, 1, 2, 0, 1), 5)
    >>> octets = write_row(("kept", (None, 3))) + (4, 1, 2, 3)
    >>> read_value((9, 9) + octets, 2), read_rows(octets), healing(octets)
    ((('kept', (None, 3)), 19), ((('kept', (None, 3)),), 17), (0, 0))

    >>> from wrecktold.differences import implied, met, solved, span, table, thinned, within
    >>> system = (3, ((0, 1, 2), (1, 2, -1), (2, 0, 0), (0, 2, 5)))
    >>> solved(system), span(system, 0, 1), met(system, 0, 1, 3), implied(system, (0, 2, 1)), thinned(system)
    (('values', (-1, 0, -1)), (1, 2), None, True, (0, 1, 2))
    >>> table((2, ((0, 1, 4),))), within(system, (3, [(0, 2, 1)])), solved((1, ((0, 0, -1),)))
    (((0, 4), (None, 0)), True, ('ring', (0,)))
'''


class Examples(unittest.TestCase):
    def run_text(self, text):
        """How many examples of a text were tried, all having told their answers."""
        test = doctest.DocTestParser().get_doctest(text, {}, "examples", None, 0)
        told = []
        result = doctest.DocTestRunner(verbose=False).run(test, out=told.append)
        self.assertEqual(result.failed, 0, "".join(told))
        return result.attempted

    def test_each_answer(self):
        self.assertGreater(self.run_text(EXAMPLES), 5)

    def test_those_of_the_readme(self):
        self.assertGreater(self.run_text(README.read_text()), 3)


if __name__ == "__main__":
    unittest.main()
