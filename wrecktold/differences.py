"""Systems of bounds between variables: their answers, and what all answers have in common."""

from wrecktold.errors import Refused
from wrecktold.graphs import distances, is_kept, nearest_way, out_edges, settle, stretch_between
from wrecktold.words import has_parts, is_below, is_integer, is_sequence, is_within, need_integer

MOST_VARIABLES = 1000


def is_edge(many, value):
    """Whether any value is an edge between two of so many variables."""
    if not has_parts(value, 3):
        return False
    return is_below(value[0], many) and is_below(value[1], many) and is_integer(value[2])


def are_edges(many, value):
    """Whether any value is a sequence of edges between so many variables."""
    return is_sequence(value) and all(is_edge(many, edge) for edge in value)


def _edge_tuples(edges):
    """Edges as tuples."""
    return tuple([tuple(edge) for edge in edges])


def is_many(value):
    """Whether any value is a number of variables that a system can have."""
    return is_within(value, 1, MOST_VARIABLES)


def check_system(value):
    """Any value that is a system, as tuples."""
    if not has_parts(value, 2) or not is_many(value[0]) or not are_edges(value[0], value[1]):
        raise Refused(value)
    return value[0], _edge_tuples(value[1])


def need_variables(many, values):
    """Refuses the first value that is no variable."""
    for value in values:
        if not is_below(value, many):
            raise Refused(value)


def _answered(system):
    """The edges of a system by their tails, and an answer of it."""
    many, edges = check_system(system)
    out = out_edges(many, edges)
    word, values = settle(out)
    if word == "ring":
        raise Refused(system)
    return out, values


def values_hold(system, value):
    """Whether any value is an answer of the system."""
    many, edges = check_system(system)
    if not has_parts(value, many) or not all(is_integer(part) for part in value):
        return False
    return all(value[head] <= value[tail] + weight for tail, head, weight in edges)


def _are_numbers(edges, value):
    """Whether any value is a sequence of numbers of edges."""
    return is_sequence(value) and all(is_below(number, len(edges)) for number in value)


def _end_of(edges, tail, numbers):
    """The variable at which edges end, one behind another from the tail on; `None` if they don't."""
    at = tail
    for number in numbers:
        if edges[number][0] != at:
            return None
        at = edges[number][1]
    return at


def way_holds(system, tail, head, value):
    """Whether any value is the numbers of edges, one behind another, that lead from tail to head."""
    many, edges = check_system(system)
    need_variables(many, (tail, head))
    return _are_numbers(edges, value) and _end_of(edges, tail, value) == head


def ring_holds(system, value):
    """Whether any value is the numbers of unlike edges round a ring whose weights sum below 0."""
    _, edges = check_system(system)
    if not _are_numbers(edges, value) or not value or len(set(value)) < len(value):
        return False
    start = edges[value[0]][0]
    return _end_of(edges, start, value) == start and sum([edges[number][2] for number in value]) < 0


def solved(system):
    """("values", the greatest answer without a value above 0), or ("ring", numbers)."""
    many, edges = check_system(system)
    return settle(out_edges(many, edges))


def has_answer(system):
    """Whether a system has an answer."""
    return solved(system)[0] == "values"


def with_edges(system, edges):
    """The system with these edges behind its own."""
    many, own = check_system(system)
    if not are_edges(many, edges):
        raise Refused(edges)
    return many, own + _edge_tuples(edges)


def solved_with(system, edges):
    """As `solved`, of the system with these edges behind its own."""
    return solved(with_edges(system, edges))


def span(system, one, other):
    """(least, greatest) of how far the other variable is above the one, `None` for no bound."""
    out, heights = _answered(system)
    need_variables(len(out), (one, other))
    return stretch_between(out, heights, one, other)


def way(system, tail, head):
    """The numbers of some way from tail to head with the least sum, `None` if there is none."""
    out, heights = _answered(system)
    need_variables(len(out), (tail, head))
    return nearest_way(out, heights, tail, head)


def met(system, one, other, value):
    """Some answer in which the other variable is just so much above the one, `None` if there is none."""
    out, _ = _answered(system)
    need_variables(len(out), (one, other))
    need_integer(value)
    word, values = solved_with(system, ((one, other, value), (other, one, -value)))
    return values if word == "values" else None


def table(system):
    """By variable, by variable, the greatest that the second can be above the first, or `None`."""
    out, heights = _answered(system)
    return tuple([distances(out, heights, variable) for variable in range(len(out))])


def implied(system, edge):
    """Whether all answers keep the edge."""
    out, heights = _answered(system)
    if not is_edge(len(out), edge):
        raise Refused(edge)
    return is_kept(out, heights, edge)


def _keeps_all(out, heights, others):
    """Whether all answers keep all edges of others, both by their tails."""
    for tail, row in enumerate(others):
        if row:
            far = distances(out, heights, tail)
            for head, weight in row.values():
                if far[head] is None or far[head] > weight:
                    return False
    return True


def within(system, other):
    """Whether each answer of the one system is an answer of the other one."""
    many, edges = check_system(system)
    if not has_parts(other, 2) or other[0] != many:
        raise Refused(other)
    others = out_edges(many, check_system(other)[1])
    out = out_edges(many, edges)
    word, heights = settle(out)
    return word == "ring" or _keeps_all(out, heights, others)


def thinned(system):
    """The numbers of the edges that stay if each is left out that the others keep, one by one."""
    out, heights = _answered(system)
    _, edges = check_system(system)
    stay = []
    for number, edge in enumerate(edges):
        tail, head, weight = edge
        del out[tail][number]
        if not is_kept(out, heights, edge):
            out[tail][number] = (head, weight)
            stay.append(number)
    return tuple(stay)
