"""Bounds between variables that are laid and lifted one by one."""

from wrecktold.differences import MOST_VARIABLES, are_edges, is_edge, is_many, need_variables
from wrecktold.errors import Refused
from wrecktold.graphs import lay_edge, nearest_way, settle, stretch_between
from wrecktold.words import is_number


class Bounds:
    """Variables, and the edges that lie between them; they always have an answer."""

    def __init__(self, many):
        if not is_many(many):
            raise Refused(many)
        self._out = [{} for variable in range(many)]
        self._edges = {}
        self._given = 0
        # An answer of the edges that lie: a lifted edge leaves it one.
        self._heights = [0] * many

    def grow(self):
        """One variable more; its number."""
        if len(self._out) == MOST_VARIABLES:
            raise Refused(MOST_VARIABLES)
        self._out.append({})
        self._heights.append(0)
        return len(self._out) - 1

    def told_edges(self):
        """Ascending (number, tail, head, weight) of the edges that lie."""
        return tuple([(number,) + edge for number, edge in self._edges.items()])

    def answer(self):
        """Of the answers without a value above 0 the greatest one."""
        # Not the heights: they hang on what was laid and lifted ahead, too.
        return settle(self._out)[1]

    def lay(self, edge):
        """Lays an edge: ("laid", number); or, if no answer keeps it besides, ("ring", names)."""
        if not is_edge(len(self._out), edge):
            raise Refused(edge)
        number = self._given
        numbers = lay_edge(self._out, self._heights, number, edge)
        if numbers is not None:
            return "ring", ("new",) + numbers
        self._edges[number] = tuple(edge)
        self._given += 1
        return "laid", number

    def lift(self, number):
        """Takes away an edge that lies."""
        if not is_number(number) or number not in self._edges:
            raise Refused(number)
        tail = self._edges[number][0]
        del self._out[tail][number]
        del self._edges[number]

    def ring_with(self, edges):
        """`None` if some answer keeps these edges besides, else the names of a ring with some of them."""
        if not are_edges(len(self._out), edges):
            raise Refused(edges)
        out = [dict(row) for row in self._out]
        heights = list(self._heights)
        for at, edge in enumerate(edges):
            names = lay_edge(out, heights, ("new", at), edge)
            if names is not None:
                return (("new", at),) + names
        return None

    def can(self, edges):
        """Whether some answer keeps these edges besides."""
        return self.ring_with(edges) is None

    def span(self, one, other):
        """(least, greatest) of how far the other variable is above the one, `None` for no bound."""
        need_variables(len(self._out), (one, other))
        return stretch_between(self._out, self._heights, one, other)

    def way(self, tail, head):
        """The numbers of some way from tail to head with the least sum, `None` if there is none."""
        need_variables(len(self._out), (tail, head))
        return nearest_way(self._out, self._heights, tail, head)
