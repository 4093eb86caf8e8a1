"""Which of two happenings came ahead, as far as all courses of rows tell it alike."""

from wrecktold.clocks import course_holds, sent, system_of
from wrecktold.courses import courses_of, quarrel
from wrecktold.edits import Bounds
from wrecktold.errors import BadRows, Quarrel
from wrecktold.happenings import need_happening, time_of, variable
from wrecktold.numbers import false_pair
from wrecktold.setups import MOST_ROWS, check_row, check_rows, check_setup
from wrecktold.words import has_parts

AHEAD = "ahead"
BEHIND = "behind"
AT_ONCE = "at once"
OPEN = "open"
SURE = "sure"


def order_word(told):
    """How the first of two happenings stands to the second, of the stretch between them."""
    least, greatest = told
    if least is not None and least > 0:
        return AHEAD
    if greatest is not None and greatest < 0:
        return BEHIND
    return AT_ONCE if least == 0 and greatest == 0 else OPEN


def order(setup, rows, one, other):
    """How the one happening stands to the other in all courses that hold."""
    told = courses_of(setup, rows)
    x = variable(told.rows, one)
    return order_word(told.span(x, variable(told.rows, other)))


def _stretch_in(table, x, y):
    """The stretch from one time to another, of a table of the greatest times between."""
    back = table[y][x]
    return (None if back is None else -back), table[x][y]


def _words_from(table, x):
    """By time how a happening at one time stands to that at this one."""
    return tuple([order_word(_stretch_in(table, x, y)) for y in range(len(table))])


def orders(setup, rows):
    """By happening, by happening, how the first one stands to the second."""
    told = courses_of(setup, rows)
    table = [told.farthest(time) for time in range(2 * len(told.rows))]
    return tuple([_words_from(table, x) for x in range(len(table))])


def _open_paper(told, x, y, between):
    """Two courses between which the order of two happenings parts."""
    least, greatest = between
    early = told.some_at(x, y, -1 if least is None else least)
    return OPEN, early, told.some_at(x, y, 1 if greatest is None else greatest)


def order_paper(setup, rows, one, other):
    """("open", course, course) that part an open pair; ("sure", words) of the edges that tell a sure one."""
    told = courses_of(setup, rows)
    x = variable(told.rows, one)
    y = variable(told.rows, other)
    between = told.span(x, y)
    word = order_word(between)
    if word == OPEN:
        return _open_paper(told, x, y, between)
    ways = ()
    if word != AHEAD:
        ways = told.way_words(x, y)
    if word != BEHIND:
        ways = ways + told.way_words(y, x)
    return SURE, ways


def _word_in(course, one, other):
    """How one happening stands to another one in a course."""
    ticks = time_of(course, other) - time_of(course, one)
    return order_word((ticks, ticks))


def open_holds(setup, rows, one, other, value):
    """Whether any value is ("open", course, course), courses that hold and between which the order parts."""
    told = courses_of(setup, rows)
    one = need_happening(told.rows, one)
    other = need_happening(told.rows, other)
    if not has_parts(value, 3) or not isinstance(value[0], str) or value[0] != OPEN:
        return False
    if not all(course_holds(told.setup, told.rows, part) for part in value[1:]):
        return False
    return _word_in(value[1], one, other) != _word_in(value[2], one, other)


class Story:
    """Rows that are taken one by one, as they come, as long as they can be true together."""

    def __init__(self, setup):
        self.setup = check_setup(setup)
        self.rows = ()
        # A row that comes only adds bounds: those of the rows ahead lie there for good.
        self._bounds = Bounds(2 * MOST_ROWS)

    def _rows_with(self, row):
        """The rows with one more behind them; a row that cannot stand there is refused."""
        rows = self.rows + (check_row(self.setup, row),)
        try:
            return check_rows(self.setup, rows)
        except BadRows:
            raise BadRows(len(self.rows)) from None

    def take(self, row):
        """The row stands behind the others; its place."""
        place = len(self.rows)
        rows = self._rows_with(row)
        edges = [edge for edge in system_of(self.setup, rows)[1] if max(edge[0], edge[1]) >= sent(place)]
        if false_pair(self.setup, rows) is not None or not self._bounds.can(edges):
            raise Quarrel(quarrel(self.setup, rows))
        for edge in edges:
            self._bounds.lay(edge)
        self.rows = rows
        return place

    def order(self, one, other):
        """How the one happening stands to the other in all courses of the rows."""
        x = variable(self.rows, one)
        return order_word(self._bounds.span(x, variable(self.rows, other)))
