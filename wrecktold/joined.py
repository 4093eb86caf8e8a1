"""What several recorders heard of the same sources: one system of all their times."""

from itertools import combinations

from wrecktold.clocks import edges_of, heard, rate_ties, recorder_ties, sent, source_ties, way_ties
from wrecktold.errors import NoHappening, Quarrel, Refused, TooGreat
from wrecktold.graphs import out_edges, settle, stretch_between
from wrecktold.happenings import SENT, is_word
from wrecktold.numbers import misfits
from wrecktold.setups import check_rows, check_setup, is_recorder, neighbours
from wrecktold.words import has_parts, is_below, is_sequence

MOST_RECORDERS = 4


def _are_recorders(value):
    """Whether any value is the clocks of one to four recorders."""
    if not is_sequence(value) or not 1 <= len(value) <= MOST_RECORDERS:
        return False
    return all(is_recorder(part) for part in value)


def _setups(joint):
    """By recorder its setup; any value that is no joint setup is refused."""
    if not has_parts(joint, 3) or not _are_recorders(joint[1]):
        raise Refused(joint)
    sources, clocks, channels = joint
    sources, _, channels = check_setup((sources, clocks[0], channels))
    return [(sources, tuple(clock), channels) for clock in clocks]


def _frame_of(row):
    """What tells the frame of a row: its source, boot and stamp."""
    return row[2], row[3], row[5]


class Joint:
    """What several recorders heard: the frames of all rows, and the numbers of their times."""

    def __init__(self, setups, wrecks):
        self.setups = setups
        self.wrecks = wrecks
        self.places = [(recorder, place) for recorder, rows in enumerate(wrecks) for place in range(len(rows))]
        # By frame the first row that tells it.
        self.tellers = {}
        for told in self.places:
            self.tellers.setdefault(_frame_of(self.row_at(told)), told)
        names = sorted(self.tellers)
        self.frames = tuple([self.row_at(self.tellers[name]) for name in names])
        numbers = {name: number for number, name in enumerate(names)}
        self.numbers = {told: numbers[_frame_of(self.row_at(told))] for told in self.places}
        self.hearings = {told: len(names) + at for at, told in enumerate(self.places)}
        self.times = len(names) + len(self.places)

    def row_at(self, told):
        """The row of a recorder and place."""
        return self.wrecks[told[0]][told[1]]


def _joint(joint, wrecks):
    """What several recorders heard, looked at part by part."""
    setups = _setups(joint)
    if not has_parts(wrecks, len(setups)):
        raise Refused(wrecks)
    return Joint(setups, [check_rows(setup, rows) for setup, rows in zip(setups, wrecks)])


def frames_of(joint, wrecks):
    """A row of each frame, ascending; by (recorder, place) the number of its frame."""
    told = _joint(joint, wrecks)
    return told.frames, {place: told.numbers[place] for place in told.numbers}


def _named(edges, names):
    """Edges between times that have other numbers in the system of all."""
    return [(names[x], names[y], weight) for x, y, weight in edges]


def _sending_edges(told):
    """The edges between the times at which frames were sent."""
    setup = told.setups[0]
    ties = source_ties(setup, told.frames, neighbours) + rate_ties(setup, told.frames, neighbours)
    return _named(edges_of(ties), {sent(number): number for number in range(len(told.frames))})


def _hearing_edges(told, recorder):
    """The edges of one recorder's rows: their ways, and its clock."""
    setup = told.setups[recorder]
    rows = told.wrecks[recorder]
    names = {sent(place): told.numbers[(recorder, place)] for place in range(len(rows))}
    names.update({heard(place): told.hearings[(recorder, place)] for place in range(len(rows))})
    return _named(edges_of(way_ties(setup, rows) + recorder_ties(setup, rows, neighbours)), names)


def _edges(told):
    """All edges between the times."""
    edges = _sending_edges(told)
    for recorder in range(len(told.setups)):
        edges.extend(_hearing_edges(told, recorder))
    return tuple(edges)


def joint_system(joint, wrecks):
    """The system of all times: those of the frames sent, then those of the rows heard."""
    told = _joint(joint, wrecks)
    return told.times, _edges(told)


def _unlike(told):
    """The first two rows that tell one frame otherwise, `None` if there are none."""
    for place in told.places:
        row = told.row_at(place)
        first = told.tellers[_frame_of(row)]
        one = told.row_at(first)
        if (row[4], row[6]) != (one[4], one[6]):
            return first, place
    return None


def _ring(told):
    """(edges by their tails, some times, `None`), or (.., `None`, the edges of a ring) if there are none."""
    edges = _edges(told)
    out = out_edges(told.times, edges)
    word, found = settle(out)
    if word == "ring":
        return out, None, tuple([edges[number] for number in found])
    return out, found, None


def _paper(told):
    """As `joint_quarrel`, of what several recorders heard."""
    unlike = _unlike(told)
    if unlike is not None:
        return ("frames",) + unlike
    false = misfits(told.setups[0], told.frames, neighbours)
    if false:
        return ("numbers",) + false[0]
    _, _, ring = _ring(told)
    return None if ring is None else ("ring", ring)


def _true(told):
    """(edges by their tails, some times); what cannot be true quarrels."""
    paper = _paper(told)
    if paper is not None:
        raise Quarrel(paper)
    out, times, _ = _ring(told)
    return out, times


def joint_quarrel(joint, wrecks):
    """`None` if there are such times; else a paper that tells why there are none."""
    return _paper(_joint(joint, wrecks))


def _course_of(told, recorder, times):
    """The course of one recorder's rows."""
    places = [place for place in told.places if place[0] == recorder]
    return tuple([(times[told.numbers[place]], times[told.hearings[place]]) for place in places])


def joint_course(joint, wrecks):
    """By recorder, by row (sent, heard), of some times."""
    told = _joint(joint, wrecks)
    _, times = _true(told)
    return tuple([_course_of(told, recorder, times) for recorder in range(len(told.setups))])


def _variable(told, value):
    """The number of the time of a happening."""
    if not has_parts(value, 3) or not is_word(value[0]) or not is_below(value[1], len(told.wrecks)):
        raise NoHappening(value)
    word, recorder, place = value
    if not is_below(place, len(told.wrecks[recorder])):
        raise NoHappening(value)
    return told.numbers[(recorder, place)] if word == SENT else told.hearings[(recorder, place)]


def joint_stretch(joint, wrecks, one, other):
    """(least, greatest) of how far the other happening is behind the one, `None` for no bound."""
    told = _joint(joint, wrecks)
    out, times = _true(told)
    x = _variable(told, one)
    return stretch_between(out, times, x, _variable(told, other))


def _without(told, lot):
    """What was heard without a lot of rows."""
    wrecks = []
    for recorder, rows in enumerate(told.wrecks):
        wrecks.append(tuple([row for place, row in enumerate(rows) if (recorder, place) not in lot]))
    return Joint(told.setups, wrecks)


def left_out(joint, wrecks, *, most):
    """The first of the fewest rows without which nothing quarrels."""
    told = _joint(joint, wrecks)
    tried = 0
    for size in range(len(told.places) + 1):
        for lot in combinations(told.places, size):
            if tried == most:
                raise TooGreat(most)
            # Without all rows nothing quarrels, so some lot is told.
            if _paper(_without(told, lot)) is None:
                return lot
            tried += 1
