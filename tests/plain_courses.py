"""Courses of rows as the tests reckon them: by the words of [15] and [16], of any two rows."""

from plain import farthest, flight, with_part


def fits(source, one, other):
    """Whether some number of frames on leads from one row's frame to another's, both of one boot."""
    stamps = other[5] - one[5]
    return any(
        (other[4] - one[4] - many) % 256 == 0 and source[4] * many <= stamps <= source[5] * many for many in range(1, stamps + 1)
    )


def ties(setup, rows, any_two=True):
    """(words, x, y, least, greatest) of any two rows, or of neighbours alone: time y is so much behind time x."""
    told = [(("way", i), 2 * i, 2 * i + 1, setup[0][row[2]][2], setup[0][row[2]][3]) for i, row in enumerate(rows)]
    for j, row in enumerate(rows):
        for i in range(j):
            ahead = rows[i]
            between = rows[i + 1:j]
            if any_two or not between:
                if row[0] == ahead[0]:
                    stamps = row[1] - ahead[1]
                    told.append((("recorder", i, j), 2 * i + 1, 2 * j + 1, setup[1][0] * stamps, setup[1][1] * stamps))
                else:
                    told.append((("start", i, j), 2 * i + 1, 2 * j + 1, 1, None))
            if row[2] != ahead[2]:
                continue
            low, high, _, _, gap, _ = setup[0][row[2]]
            if any_two or not [other for other in between if other[2] == row[2]]:
                if row[3] == ahead[3]:
                    stamps = row[5] - ahead[5]
                    told.append((("clock", i, j), 2 * i, 2 * j, low * stamps, high * stamps))
                else:
                    told.append((("boot", i, j), 2 * i, 2 * j, low * gap, None))
            for channel, value in row[6]:
                was = dict(ahead[6])
                rate = setup[2][channel][1]
                near = any_two or not [other for other in between if channel in dict(other[6])]
                if rate is not None and channel in was and near:
                    told.append((("rate", i, j, channel), 2 * i, 2 * j, -(-abs(value - was[channel]) // rate), None))
    return told


def edges_with_words(setup, rows, any_two=True):
    """(words, x, y, w): time y is at most w behind time x."""
    told = []
    for words, x, y, least, greatest in ties(setup, rows, any_two):
        if greatest is not None:
            told.append((words, x, y, greatest))
        told.append((words, y, x, -least))
    return told


def own_edges(setup, rows):
    """The edges between the times of any two rows."""
    return tuple((x, y, w) for _, x, y, w in edges_with_words(setup, rows))


def table_of(setup, rows, more=()):
    """By time, by time, how far the second is behind the first at most; `None` if no times keep all that."""
    return farthest((2 * len(rows), own_edges(setup, rows) + tuple(more)))


def own_numbers(setup, rows):
    """("numbers", i, j) of the first neighbours of one boot whose numbers don't fit, else `None`."""
    for number, source in enumerate(setup[0]):
        places = [place for place, row in enumerate(rows) if row[2] == number]
        for i, j in zip(places, places[1:]):
            if rows[i][3] == rows[j][3] and not fits(source, rows[i], rows[j]):
                return "numbers", i, j
    return None


def own_holds(setup, rows, course):
    """Whether a course holds."""
    times = [time for pair in course for time in pair]
    if len(times) != 2 * len(rows) or not all(time.__class__ is int for time in times):
        return False
    for _, x, y, least, greatest in ties(setup, rows):
        if times[y] - times[x] < least or (greatest is not None and times[y] - times[x] > greatest):
            return False
    pairs = [(ahead, row) for j, row in enumerate(rows) for ahead in rows[:j] if ahead[2:4] == row[2:4]]
    return all(fits(setup[0][row[2]], ahead, row) for ahead, row in pairs)


def stretch_of(table, x, y):
    """(least, greatest) of how far time y is behind time x."""
    return (None if table[y][x] is None else -table[y][x]), table[x][y]


def meets(stretch, time):
    """Whether a time lies in a stretch."""
    least, greatest = stretch
    return (least is None or least <= time) and (greatest is None or time <= greatest)


def is_bounded(table):
    """Whether there is a bound between any two times."""
    return all(part is not None for row in table for part in row)


def all_courses(setup, rows, most=4000):
    """All courses in which the first frame is sent at 0; `None` if they have no bound, or are too many."""
    table = table_of(setup, rows)
    if table is None or not is_bounded(table):
        return None
    found = []
    times = []

    def go_on():
        at = len(times)
        if at == len(table):
            found.append(tuple(zip(times[::2], times[1::2])))
            return len(found) <= most
        low = max([time - table[at][one] for one, time in enumerate(times)], default=0)
        high = min([time + table[one][at] for one, time in enumerate(times)], default=0)
        for time in range(low, high + 1):
            times.append(time)
            more = go_on()
            times.pop()
            if not more:
                return False
        return True

    if not go_on():
        return None
    assert all(own_holds(setup, rows, course) for course in found)
    return found


def tight_setup(dice):
    """A setup by chance whose rows have few courses."""
    sources = []
    for _ in range(dice.randint(1, 2)):
        low = dice.randint(1, 2)
        gap = dice.randint(1, 2)
        least = dice.randint(0, 2)
        sources.append((low, low + dice.randint(0, 1), least, least + dice.randrange(low * gap), gap, gap + dice.randint(0, 2)))
    channels = [(dice.randrange(len(sources)), dice.choice((None, 1, 1, 2, 3))) for _ in range(dice.randint(1, 3))]
    return tuple(sources), (1, dice.randint(1, 2)), tuple(channels)


def few_rows(dice, many=3, most=600, least=2):
    """(setup, rows, all courses of these): rows that were truly heard, and have not too many courses."""
    while True:
        setup = tight_setup(dice)
        rows, course = flight(dice, setup, many)
        found = all_courses(setup, rows, most) if len(rows) >= least else None
        if found is not None:
            first = course[0][0]
            assert tuple((sent - first, heard - first) for sent, heard in course) in found
            return setup, rows, found


def with_readings(dice, setup, rows):
    """The rows, each of them with small readings of most of its source's channels that have no rate."""
    told = []
    for row in rows:
        values = {channel: dice.randint(0, 2) for channel, part in enumerate(setup[2]) if part == (row[2], None) and dice.random() < 0.8}
        told.append((*row[:6], tuple(sorted({**dict(row[6]), **values}.items()))))
    return tuple(told)


def dense_rows(dice, most=300, least=3):
    """As `few_rows`, of more rows, with many readings of channels without a rate."""
    while True:
        sources = []
        for _ in range(dice.randint(1, 2)):
            low, gap, way = dice.choice((1, 1, 2)), dice.randint(1, 2), dice.choice((0, 0, 1))
            sources.append((low, low + dice.choice((0, 0, 1)), way, way + min(dice.choice((0, 1)), low * gap - 1), gap, gap + 1))
        setup = tuple(sources), (1, dice.choice((1, 1, 2))), tuple((at % len(sources), None) for at in range(dice.randint(1, 4)))
        rows, _ = flight(dice, setup, 5)
        found = all_courses(setup, rows, most) if len(rows) >= least else None
        if found is not None:
            return setup, with_readings(dice, setup, rows), found


def loose_rows(dice, most=7):
    """(setup, rows) that can be true, with readings of channels without a rate, many of them without a bound between."""
    while True:
        sources = tuple((1, dice.randint(1, 3), 0, dice.choice((0, 0, 1)), 2, dice.randint(2, 9)) for _ in range(dice.randint(1, 3)))
        setup = sources, (1, dice.randint(1, 3)), tuple((at % len(sources), None) for at in range(len(sources) + dice.randint(0, 2)))
        rows = []
        rboot, rstamp, frames = 0, 0, {}
        for _ in range(dice.randint(2, most)):
            source = dice.randrange(len(sources))
            boot, number, stamp = frames.get(source, (0, 0, -2))
            if dice.random() < 0.5:
                boot, number, stamp = boot + 1, 0, dice.randint(0, 3)
            else:
                number, stamp = number + 1, stamp + dice.randint(sources[source][4], sources[source][5])
            frames[source] = boot, number, stamp
            rboot, rstamp = (rboot + 1, 0) if dice.random() < 0.6 else (rboot, rstamp + dice.randint(0, 6))
            rows.append((rboot, rstamp, source, boot, number, stamp, ()))
        if own_numbers(setup, rows) is None and table_of(setup, rows) is not None:
            return setup, with_readings(dice, setup, rows)


def bent_rows(dice, setup, rows):
    """Rows of which one was turned at a stamp, a number, a reading or the recorder's stamp; `None` if none was."""
    at = dice.randrange(len(rows))
    row = rows[at]
    part = dice.choice((1, 4, 5, 6))
    if part == 6:
        if not row[6]:
            return None
        channel, value = row[6][-1]
        new = (*row[6][:-1], (channel, value + dice.choice((-30, -8, 8, 30))))
    else:
        new = max(0, row[part] + dice.choice((-3, -1, 1, 2, 5))) % (256 if part == 4 else 10 ** 6)
    bent = with_part(rows, at, tuple(with_part(row, part, new)))
    for one, other in zip(bent, bent[1:]):
        if other[:2] < one[:2]:
            return None
    for source in range(len(setup[0])):
        sent = [row[3:6:2] for row in bent if row[2] == source]
        if any(other <= one for one, other in zip(sent, sent[1:])):
            return None
    return tuple(bent)
