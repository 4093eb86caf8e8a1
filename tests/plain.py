"""What the tests reckon by plain means of their own, and the values they try."""

import random

from wrecktold import errors


def deep(many):
    """A sequence with so many sequences one within another, itself counted."""
    value = []
    for turn in range(many - 1):
        value = [value] if turn % 2 else (value,)
    return value


# Values of every kind of point [1], none of which is what a function asks for by chance alone.
ODD = [
    None, True, False, -1, 10 ** 40, -(10 ** 40), "", "0", "Ab\n\u00e9\U0001f600", [], (), [[]], ((),), [None], (True,), [0], (0, 0),
    [1, 2, "3"], [[0, 0, None]], (1, (0, 0, 0)), ["a"], errors.Refused(3), [errors.Cut()], deep(50), (1, 2, 3, 4, 5, 6, 7, 8),
]


def chance(seed):
    """A row of chances that is the same in every run."""
    return random.Random(seed)


def caught(kind, call, *args, **named):
    """The error of this very class that a call raises."""
    try:
        result = call(*args, **named)
    except Exception as error:
        if error.__class__ is kind:
            return error
        raise AssertionError(f"{call} raised {error!r} in the place of {kind}") from error
    raise AssertionError(f"{call} told {result!r} in the place of {kind}")


def all_tuples(value):
    """Whether a result has no list in it."""
    if isinstance(value, tuple):
        return all(all_tuples(part) for part in value)
    return not isinstance(value, (list, dict, set))


def same(one, other):
    """Whether two values are alike, True and 1 being two."""
    return repr(one) == repr(other)


def farthest(system):
    """By variable, by variable, the least sum of a way; `None` if a ring goes below 0."""
    many, edges = system
    far = [[0 if one == other else None for other in range(many)] for one in range(many)]
    for tail, head, weight in edges:
        if far[tail][head] is None or weight < far[tail][head]:
            far[tail][head] = weight
    for mid in range(many):
        for one in range(many):
            for other in range(many):
                if far[one][mid] is not None and far[mid][other] is not None:
                    there = far[one][mid] + far[mid][other]
                    if far[one][other] is None or there < far[one][other]:
                        far[one][other] = there
    if any(far[one][one] < 0 for one in range(many)):
        return None
    return far


def keeps(edges, values):
    """Whether values are an answer of edges."""
    return all(values[head] <= values[tail] + weight for tail, head, weight in edges)


def some_system(dice, variables=5, edges=9, least=-4, most=7):
    """A system by chance."""
    many = dice.randint(1, variables)
    return many, tuple(
        (dice.randrange(many), dice.randrange(many), dice.randint(least, most)) for _ in range(dice.randint(0, edges))
    )


def wide_system():
    """A system of 1,000 variables and 2,000 edges with an answer."""
    dice = chance(41)
    heights = [dice.randint(-(10 ** 6), 10 ** 6) for _ in range(1000)]
    ends = [(at, (at + 1) % 1000) for at in range(1000)]
    ends += [(dice.randrange(1000), dice.randrange(1000)) for _ in range(1000)]
    return 1000, tuple((tail, head, heights[head] - heights[tail] + dice.randint(0, 50)) for tail, head in ends)
