"""Ways through edges: what the modules `differences` and `edits` reckon with.

Edges are kept by their tails: `out[tail]` is a dict from the name of each edge
that begins there to (head, weight). Heights are an answer, one integer for each
variable: with them no edge goes below 0, so that the nearest ways are found by
going to the nearest variable first.
"""

from heapq import heappop, heappush


def out_edges(many, edges):
    """Edges by their tails, named by their numbers."""
    out = [{} for variable in range(many)]
    for number, (tail, head, weight) in enumerate(edges):
        out[tail][number] = (head, weight)
    return out


def _lower(out, values, came, tails):
    """Lowers the heads of all edges from these tails; the variables that were lowered."""
    fallen = {}
    for tail in tails:
        for name, (head, weight) in out[tail].items():
            if values[tail] + weight < values[head]:
                values[head] = values[tail] + weight
                came[head] = (tail, name)
                fallen[head] = True
    return list(fallen)


def _ring_behind(came, variable):
    """The ring into which the edges lead back by which the variables were lowered."""
    for turn in range(len(came)):
        variable = came[variable][0]
    tail, name = came[variable]
    names = [name]
    while tail != variable:
        tail, name = came[tail]
        names.append(name)
    return tuple(names[::-1])


def settle(out):
    """("values", the greatest answer without a value above 0), or ("ring", names)."""
    values = [0] * len(out)
    came = [None] * len(out)
    tails = list(range(len(out)))
    for turn in range(len(out)):
        tails = _lower(out, values, came, tails)
        if not tails:
            break
    if not tails:
        return "values", tuple(values)
    # A variable that falls in a turn was reached by one that fell in the turn
    # ahead or later; as many turns as variables lead back into a ring.
    return "ring", _ring_behind(came, tails[0])


def spread(out, heights, start, goal, most):
    """By variable how far it is from the start, over the heights, and whence it was reached.

    It ends as soon as the goal is reached; what is farther than `most` is left
    out. `None` tells that there is no goal, no such bound.
    """
    far = {}
    came = {}
    least = {start: 0}
    queue = [(0, start)]
    while queue and goal not in far:
        near, tail = heappop(queue)
        if tail in far:
            continue
        far[tail] = near
        base = near + heights[tail]
        for name, (head, weight) in out[tail].items():
            there = base + weight - heights[head]
            if (most is None or there <= most) and (head not in least or there < least[head]):
                least[head] = there
                came[head] = (tail, name)
                heappush(queue, (there, head))
    return far, came


def trail(came, start, goal):
    """The names of the edges, one behind another, by which the goal was reached from the start."""
    names = []
    while goal != start:
        goal, name = came[goal]
        names.append(name)
    return tuple(names[::-1])


def nearest_way(out, heights, start, goal):
    """The names of a way with the least sum, `None` if there is no way."""
    far, came = spread(out, heights, start, goal, None)
    return trail(came, start, goal) if goal in far else None


def distance(out, heights, start, goal):
    """The least sum of a way, `None` if there is no way."""
    far, _ = spread(out, heights, start, goal, None)
    return far[goal] + heights[goal] - heights[start] if goal in far else None


def distances(out, heights, start):
    """By variable the least sum of a way from the start, `None` if there is no way."""
    far, _ = spread(out, heights, start, None, None)
    row = [None] * len(out)
    for variable, near in far.items():
        row[variable] = near + heights[variable] - heights[start]
    return tuple(row)


def stretch_between(out, heights, one, other):
    """(least, greatest) of how far the other variable is above the one, `None` for no bound."""
    back = distance(out, heights, other, one)
    return (None if back is None else -back), distance(out, heights, one, other)


def is_kept(out, heights, edge):
    """Whether some way leads from the edge's tail to its head with no more than its weight."""
    tail, head, weight = edge
    most = weight + heights[tail] - heights[head]
    if most < 0:
        return False
    far, _ = spread(out, heights, tail, head, most)
    return head in far


def lay_edge(out, heights, name, edge):
    """Lays an edge and makes the heights an answer with it: `None`.

    If there is no answer with it, nothing changes, and it is told which edges,
    one behind another, lead from its head to its tail and make a ring with it.
    """
    tail, head, weight = edge
    lack = heights[head] - heights[tail] - weight
    if lack > 0:
        far, came = spread(out, heights, head, tail, lack - 1)
        if tail in far:
            return trail(came, head, tail)
        for variable, near in far.items():
            heights[variable] += near - lack
    out[tail][name] = (head, weight)
    return None
