"""What the tests reckon by plain means of their own, and the values they try."""

import random
import time

from wrecktold import errors


def deep(many):
    """A sequence with so many sequences one within another, itself counted."""
    value = []
    for turn in range(many - 1):
        value = [value] if turn % 2 else (value,)
    return value


# Values of every kind of point [1], none of which is what a function asks for by chance alone.
ODD = [
    None, True, False, -1, 10 ** 40, -(10 ** 40), "", "0", "Ab\n\u00e9\U0001f600", [], (), [[]], ((),), [None], (True,), [0], (0, 0),
    [1, 2, "3"], [[0, 0, None]], (1, (0, 0, 0)), ["a"], errors.Refused(3), [errors.Cut()], deep(50), (1, 2, 3, 4, 5, 6, 7, 8),
]

# None of these is an edge between three variables.
NO_EDGES = [
    *ODD, (0, 1), (0, 1, 2, 3), (0, 3, 1), (3, 0, 1), (-1, 0, 1), (0, -1, 1), (True, 0, 1), (0, False, 1), (0, 1, True),
    (0, 1, None), ("0", 1, 1), (0, 1, "1"), [0, 1, (1,)], deep(50),
]


def chance(seed):
    """A row of chances that is the same in every run."""
    return random.Random(seed)


def caught(kind, call, *args, **named):
    """The error of this very class that a call raises."""
    try:
        result = call(*args, **named)
    except Exception as error:
        if error.__class__ is kind:
            return error
        raise AssertionError(f"{call} raised {error!r} in the place of {kind}") from error
    raise AssertionError(f"{call} told {result!r} in the place of {kind}")


def all_tuples(value):
    """Whether a result has no list in it."""
    if isinstance(value, tuple):
        return all(all_tuples(part) for part in value)
    return not isinstance(value, (list, dict, set))


def same(one, other):
    """Whether two values are alike, True and 1 being two."""
    return repr(one) == repr(other)


def farthest(system):
    """By variable, by variable, the least sum of a way; `None` if a ring goes below 0."""
    many, edges = system
    far = [[0 if one == other else None for other in range(many)] for one in range(many)]
    for tail, head, weight in edges:
        if far[tail][head] is None or weight < far[tail][head]:
            far[tail][head] = weight
    for mid in range(many):
        for one in range(many):
            for other in range(many):
                if far[one][mid] is not None and far[mid][other] is not None:
                    there = far[one][mid] + far[mid][other]
                    if far[one][other] is None or there < far[one][other]:
                        far[one][other] = there
    if any(far[one][one] < 0 for one in range(many)):
        return None
    return far


def keeps(edges, values):
    """Whether values are an answer of edges."""
    return all(values[head] <= values[tail] + weight for tail, head, weight in edges)


def some_system(dice, variables=5, edges=9, least=-4, most=7):
    """A system by chance."""
    many = dice.randint(1, variables)
    return many, tuple(
        (dice.randrange(many), dice.randrange(many), dice.randint(least, most)) for _ in range(dice.randint(0, edges))
    )


def wide_system():
    """A system of 1,000 variables and 2,000 edges with an answer."""
    dice = chance(41)
    heights = [dice.randint(-(10 ** 6), 10 ** 6) for _ in range(1000)]
    ends = [(at, (at + 1) % 1000) for at in range(1000)]
    ends += [(dice.randrange(1000), dice.randrange(1000)) for _ in range(1000)]
    return 1000, tuple((tail, head, heights[head] - heights[tail] + dice.randint(0, 50)) for tail, head in ends)


def with_part(value, at, part):
    """A sequence with another part at this place."""
    return [*value[:at], part, *value[at + 1:]]


def some_range(dice, least, most):
    """Two integers, the first not the greater one."""
    low = dice.randint(least, most)
    return low, dice.randint(low, most)


def some_setup(dice):
    """A setup by chance, the recorder's clock able to be a tick a stamp."""
    sources = []
    for _ in range(dice.randint(1, 3)):
        low, high = some_range(dice, 1, 4)
        gap, pause = some_range(dice, 1, 6)
        least = dice.randint(0, 5)
        sources.append((low, high, least, least + dice.randrange(low * gap), gap, pause))
    channels = [(dice.randrange(len(sources)), dice.choice((None, 1, 2, 5))) for _ in range(dice.randint(1, 4))]
    return tuple(sources), (1, dice.randint(1, 3)), tuple(channels)


def sendings(dice, setup, source, many):
    """(heard, sent, boot, number, stamp, readings) of frames of a source, as they truly were."""
    low, high, least, most, gap, pause = setup[0][source]
    time, boot, stamp, number = dice.randint(-9, 9), dice.randint(0, 3), dice.randint(0, 99), dice.choice((0, 7, 254))
    rates = {channel: rate for channel, (by, rate) in enumerate(setup[2]) if by == source}
    values = {channel: dice.randint(-9, 9) for channel in rates}
    told = []
    for _ in range(many):
        readings = tuple((channel, values[channel]) for channel in sorted(values) if dice.random() < 0.6)
        told.append((time + dice.randint(least, most), time, boot, number % 256, stamp, readings))
        stamps = dice.randint(gap, pause)
        if dice.random() < 0.15:
            boot, stamp, number = boot + 1, dice.randint(0, 99), dice.choice((0, 3))
            ticks = dice.randint(low * gap, low * gap + 9)
        else:
            stamp, number = stamp + stamps, number + 1
            ticks = sum(dice.randint(low, high) for _ in range(stamps))
        time += ticks
        for channel, rate in rates.items():
            values[channel] += dice.randint(-9, 9) if rate is None else dice.randint(-rate * ticks, rate * ticks)
    return told


def flight(dice, setup, many=4):
    """(rows, course): what a recorder heard, some frames lost, and when all that was."""
    heard = []
    for source in range(len(setup[0])):
        for told in sendings(dice, setup, source, dice.randint(0, many)):
            if dice.random() < 0.8:
                heard.append((told[0], source, *told[1:]))
    rows = []
    course = []
    rboot, rstamp, last = dice.randint(0, 2), dice.randint(0, 50), None
    for time, source, sent, boot, number, stamp, readings in sorted(heard):
        if last is not None and time > last and dice.random() < 0.15:
            rboot, rstamp = rboot + 1, dice.randint(0, 50)
        elif last is not None:
            rstamp += dice.randint(-(-(time - last) // setup[1][1]), time - last)
        rows.append((rboot, rstamp, source, boot, number, stamp, readings))
        course.append((sent, time))
        last = time
    return tuple(rows), tuple(course)


def soon(case, seconds, call, *args):
    """What a call tells, not too late."""
    start = time.perf_counter()
    told = call(*args)
    case.assertLess(time.perf_counter() - start, seconds)
    return told


def solved_modulo(points):
    """The coefficients, the least first, of the polynomial modulo 257 through (at, cell) pairs, by elimination."""
    many = len(points)
    lines = [[pow(at, power, 257) for power in range(many)] + [cell] for at, cell in points]
    for column in range(many):
        at = next(row for row in range(column, many) if lines[row][column])
        lines[column], lines[at] = lines[at], lines[column]
        factor = pow(lines[column][column], -1, 257)
        lines[column] = [part * factor % 257 for part in lines[column]]
        for row in range(many):
            if row != column:
                times = lines[row][column]
                lines[row] = [(one - times * other) % 257 for one, other in zip(lines[row], lines[column])]
    return [line[-1] for line in lines]


def cell_at(points, at):
    """The cell at a place of the polynomial through (at, cell) pairs."""
    return sum(part * pow(at, power, 257) for power, part in enumerate(solved_modulo(points))) % 257


def own_pieces(count, need, cells, octets):
    """By chip its piece of octets, by the test's own polynomial."""
    filled = list(octets) + [256] * (need * cells - len(octets))
    lots = [filled[at:at + need] for at in range(0, need * cells, need)]
    return tuple(tuple(cell_at(list(enumerate(lot)), chip) for lot in lots) for chip in range(count))


def some_octets(dice, most):
    """Octets by chance, at most so many."""
    return tuple(dice.randrange(256) for _ in range(dice.randint(0, most)))


def some_shape(dice, chips=5, slots=7, cells=8):
    """A shape by chance."""
    many = dice.randint(2, chips)
    slot = dice.randint(2, slots)
    return many, dice.randint(1, many - 1), slot, dice.randint(1, slot - 1), dice.randint(1, cells)


def own_needed(number, last, stretches):
    kept = set(range(max(0, number - last), number))
    for first, end in stretches:
        kept |= set(range(first, min(end + 1, number)))
    return tuple(sorted(kept))


def own_full(slots, last, number, stretches):
    """The first block for which slots lack, looked for one by one."""
    for block in range(number, max([number, *(end for _, end in stretches)]) + last + 3):
        if 1 + len(own_needed(block, last, stretches)) > slots:
            return block
    return None


def own_place(row, number, last, stretches):
    kept = own_needed(number, last, stretches)
    for word in ("torn", None):
        for slot, part in enumerate(row):
            if part == word:
                return slot
    free = [(part, slot) for slot, part in enumerate(row) if part not in kept]
    return min(free)[1] if free else None


def own_number(number):
    """How a number is told within a form: how many octets it needs, then these."""
    octets = number.to_bytes((number.bit_length() + 7) // 8, "big")
    return [len(octets), *octets]


def own_asks(asks):
    """The form of asks, by the test's own writing."""
    out = [4, *own_number(len(asks))]
    for ask in asks:
        out += [4, 1, 3]
        for number in ask:
            out += [1, *own_number(number)]
    return tuple(out)
