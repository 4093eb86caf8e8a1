"""The courses of rows: whether there are some, and what all of them have in common."""

from wrecktold.clocks import edge_words, system_of
from wrecktold.differences import are_edges
from wrecktold.errors import Quarrel, Refused
from wrecktold.graphs import distances, lay_edge, nearest_way, out_edges, settle, stretch_between
from wrecktold.happenings import variable
from wrecktold.numbers import false_pair
from wrecktold.setups import checked
from wrecktold.words import is_integer


def course_of(values):
    """The course of times by number."""
    return tuple([(values[at], values[at + 1]) for at in range(0, len(values), 2)])


class Courses:
    """All courses of rows that hold: the answers of one system, asked by the numbers of times."""

    def __init__(self, setup, rows, out, times):
        self.setup = setup
        self.rows = rows
        self._out = out
        self._times = times

    def some(self):
        """Some course."""
        return course_of(self._times)

    def some_with(self, edges):
        """Some course in which these edges are kept, too; `None` if there is none."""
        out = [dict(row) for row in self._out]
        times = list(self._times)
        for at, edge in enumerate(edges):
            if lay_edge(out, times, ("new", at), edge) is not None:
                return None
        return course_of(times)

    def some_at(self, x, y, ticks):
        """Some course in which one time is just so much behind another one; `None` if there is none."""
        return self.some_with(((x, y, ticks), (y, x, -ticks)))

    def span(self, x, y):
        """(least, greatest) of how far one time is behind another one, `None` for no bound."""
        return stretch_between(self._out, self._times, x, y)

    def farthest(self, x):
        """By number of a time how far it is behind one time at most, `None` for no bound."""
        return distances(self._out, self._times, x)

    def way_words(self, x, y):
        """The words of the edges along a way that tells how far one time is behind another one at most."""
        words = edge_words(self.setup, self.rows)
        return tuple([words[number] for number in nearest_way(self._out, self._times, x, y)])


def courses_of(setup, rows):
    """All courses of rows that hold; rows that have none quarrel."""
    setup, rows = checked(setup, rows)
    pair = false_pair(setup, rows)
    if pair is not None:
        raise Quarrel(("numbers",) + pair)
    many, edges = system_of(setup, rows)
    out = out_edges(many, edges)
    word, told = settle(out)
    if word == "ring":
        words = edge_words(setup, rows)
        raise Quarrel(("ring", tuple([words[number] for number in told])))
    return Courses(setup, rows, out, told)


def need_true(setup, rows):
    """A setup and rows of it that some course holds for, as tuples."""
    told = courses_of(setup, rows)
    return told.setup, told.rows


def quarrel(setup, rows):
    """`None` if some course of the rows holds; else a paper that tells why there is none."""
    try:
        need_true(setup, rows)
    except Quarrel as error:
        return error.paper
    return None


def course(setup, rows):
    """Some course of the rows that holds."""
    return courses_of(setup, rows).some()


def course_with(setup, rows, edges):
    """Some course that holds in which these edges are kept, too; `None` if there is none."""
    told = courses_of(setup, rows)
    if not are_edges(2 * len(told.rows), edges):
        raise Refused(edges)
    return told.some_with(edges)


def stretch(setup, rows, one, other):
    """(least, greatest) of how far the other happening is behind the one, `None` for no bound."""
    told = courses_of(setup, rows)
    x = variable(told.rows, one)
    return told.span(x, variable(told.rows, other))


def course_at(setup, rows, one, other, time):
    """Some course that holds in which the other happening is just so far behind the one."""
    told = courses_of(setup, rows)
    x = variable(told.rows, one)
    y = variable(told.rows, other)
    met = told.some_at(x, y, time) if is_integer(time) else None
    if met is None:
        raise Refused(time)
    return met
