"""What caused what: rows explained by others, and chains of causes."""

from wrecktold.clocks import sent
from wrecktold.courses import courses_of
from wrecktold.errors import Refused, TooGreat
from wrecktold.questions import has_mark_form, mark_places
from wrecktold.words import has_parts, is_below, is_number, is_sequence

ALWAYS = "always"
NEVER = "never"
OPEN = "open"


def _is_mark(setup, value):
    """Whether any value is a mark of a channel that is there."""
    return has_mark_form(value) and is_below(value[0], len(setup[2]))


def _is_cause(setup, value):
    """Whether any value is a cause."""
    if not has_parts(value, 4) or not _is_mark(setup, value[0]) or not _is_mark(setup, value[1]):
        return False
    return is_number(value[2]) and is_number(value[3]) and value[2] <= value[3]


class Causes:
    """Causes of rows: by cause the places of the rows of its marks, and the ticks between."""

    def __init__(self, told, causes):
        self.courses = told
        self.many = len(causes)
        self.firsts = [mark_places(told.rows, cause[0]) for cause in causes]
        self.seconds = [mark_places(told.rows, cause[1]) for cause in causes]
        self.ticks = [(cause[2], cause[3]) for cause in causes]
        # By place, by number of a time: how far this is behind the row's sending at most.
        self._far = [told.farthest(sent(place)) for place in range(len(told.rows))]

    def most_behind(self, i, j):
        """How far one row is sent behind another one at most, `None` for no bound."""
        return self._far[i][sent(j)]

    def numbers_of(self, place):
        """The causes of whose second mark a row is."""
        return [number for number in range(self.many) if place in self.seconds[number]]

    def least_ticks(self, link):
        """The least ticks between the rows of a link with which it is so in some course, `None` if it never is."""
        number, i, j = link
        least, most = self.ticks[number]
        back = self.most_behind(j, i)
        greatest = self.most_behind(i, j)
        low = least if back is None else max(least, -back)
        high = most if greatest is None else min(most, greatest)
        return low if low <= high else None

    def is_sure(self, link):
        """Whether a link is so in all courses."""
        number, i, j = link
        least, most = self.ticks[number]
        back = self.most_behind(j, i)
        greatest = self.most_behind(i, j)
        return back is not None and -back >= least and greatest is not None and greatest <= most

    def edges_of(self, link):
        """The edges by which a link is so."""
        number, i, j = link
        least, most = self.ticks[number]
        return [(sent(i), sent(j), most), (sent(j), sent(i), -least)]


def _causes_of(setup, rows, causes):
    """Causes of rows; any value that is none is refused."""
    told = courses_of(setup, rows)
    if not is_sequence(causes) or not all(_is_cause(told.setup, cause) for cause in causes):
        raise Refused(causes)
    return Causes(told, causes)


def _need_place(known, place):
    """Refuses any value that is no place of a row."""
    if not is_below(place, len(known.courses.rows)):
        raise Refused(place)


def _known_at(setup, rows, causes, place):
    """Causes of rows, and a place looked at behind them."""
    known = _causes_of(setup, rows, causes)
    _need_place(known, place)
    return known


def _explained_course(known, place):
    """As `explained_course`, of causes."""
    for number in known.numbers_of(place):
        for other in known.firsts[number]:
            ticks = known.least_ticks((number, other, place)) if other != place else None
            if ticks is not None:
                return number, other, known.courses.some_at(sent(other), sent(place), ticks)
    return None


def explained_course(setup, rows, causes, place):
    """Some (number, place of another row, course) so that this row caused the told one, or `None`."""
    return _explained_course(_known_at(setup, rows, causes, place), place)


# In a course in which no row of a cause's first mark caused a row, these rows
# part at one place: those ahead of it were sent too far ahead, the others not
# far enough. So a parting is told by two rows at most, each (place, ticks): the
# last one that is too far ahead, by so many ticks at least, and the first one
# that is not far enough, by so many at most; `None` where there is none.


def _can_be(known, place, far, near):
    """Whether some course has one row too far ahead of the told one, and another one not far enough."""
    if far is not None:
        most = known.most_behind(far[0], place)
        if most is not None and most < far[1]:
            return False
    if near is not None:
        back = known.most_behind(place, near[0])
        if back is not None and -back > near[1]:
            return False
    if far is None or near is None:
        return True
    between = known.most_behind(far[0], near[0])
    return between is None or between >= far[1] - near[1]


def _partings(known, number, place):
    """The partings, each of them that of some course, of a cause's rows but the told one."""
    least, most = known.ticks[number]
    others = [other for other in known.firsts[number] if other != place]
    fars = [None] + [(other, most + 1) for other in others]
    nears = [(other, least - 1) for other in others] + [None]
    return [(far, near) for far, near in zip(fars, nears) if _can_be(known, place, far, near)]


def _go_together(known, place, one, other):
    """Whether some course has two partings at once."""
    return _can_be(known, place, one[0], other[1]) and _can_be(known, place, other[0], one[1])


def _agreeing(known, place, partings):
    """By parting which ones ahead of it go with it, as the bits of an integer."""
    masks = []
    for at, one in enumerate(partings):
        masks.append(sum([1 << number for number in range(at) if _go_together(known, place, one, partings[number])]))
    return masks


def _longer(ways, mask, at):
    """The ways that a parting goes with, with it behind them."""
    return [(bits | (1 << at), numbers + (at,)) for bits, numbers in ways if bits & mask == bits]


def _ways(lots, masks, most):
    """The ways to take one parting of each lot, all of them those of one course, each as their numbers."""
    # The bounds of partings all meet in the told row: if any two of them can be
    # at once, all can.
    ways = [(0, ())]
    for lot in lots:
        ways = [way for at in lot for way in _longer(ways, masks[at], at)]
        if len(ways) > most:
            raise TooGreat(most)
    return [numbers for _, numbers in ways]


def _parting_edges(place, parting):
    """The edges by which the rows of a parting are too far ahead of the told one, and not far enough."""
    far, near = parting
    edges = [] if far is None else [(sent(place), sent(far[0]), -far[1])]
    return edges if near is None else edges + [(sent(near[0]), sent(place), near[1])]


def _bare_course(known, place, most):
    """As `bare_course`, of causes."""
    partings = []
    lots = []
    for number in known.numbers_of(place):
        told = _partings(known, number, place)
        lots.append(list(range(len(partings), len(partings) + len(told))))
        partings.extend(told)
    ways = _ways(lots, _agreeing(known, place, partings), most)
    if not ways:
        return None
    edges = [edge for at in ways[0] for edge in _parting_edges(place, partings[at])]
    return known.courses.some_with(edges)


def bare_course(setup, rows, causes, place, *, most):
    """Some course in which no other row caused the told one, `None` if there is none."""
    return _bare_course(_known_at(setup, rows, causes, place), place, most)


def explained(setup, rows, causes, place, *, most):
    """Whether the told row is caused by another one: "always", "never" or "open"."""
    known = _known_at(setup, rows, causes, place)
    if _explained_course(known, place) is None:
        return NEVER
    return ALWAYS if _bare_course(known, place, most) is None else OPEN


def roots(setup, rows, causes, *, most):
    """The ascending places of rows of second marks that are not always explained."""
    known = _causes_of(setup, rows, causes)
    places = [place for place in range(len(known.courses.rows)) if known.numbers_of(place)]
    return tuple([place for place in places if _bare_course(known, place, most) is not None])


def _is_link(known, value):
    """Whether any value is a link."""
    if not has_parts(value, 3) or not is_below(value[0], known.many):
        return False
    many = len(known.courses.rows)
    if not is_below(value[1], many) or not is_below(value[2], many) or value[1] == value[2]:
        return False
    return value[1] in known.firsts[value[0]] and value[2] in known.seconds[value[0]]


def _need_chain(known, chain):
    """Refuses any value that is no chain."""
    if not is_sequence(chain) or not chain or not all(_is_link(known, link) for link in chain):
        raise Refused(chain)
    if not all([one[2] == other[1] for one, other in zip(chain, chain[1:])]):
        raise Refused(chain)


def _chain_course(known, chain):
    """As `chain_course`, of causes and a chain."""
    return known.courses.some_with([edge for link in chain for edge in known.edges_of(link)])


def chain_course(setup, rows, causes, chain):
    """Some course in which all links of a chain are so, `None` if there is none."""
    known = _causes_of(setup, rows, causes)
    _need_chain(known, chain)
    return _chain_course(known, chain)


def chain_word(setup, rows, causes, chain):
    """Whether all links of a chain are so: "always", "never" or "open"."""
    known = _causes_of(setup, rows, causes)
    _need_chain(known, chain)
    if all(known.is_sure(link) for link in chain):
        return ALWAYS
    return NEVER if _chain_course(known, chain) is None else OPEN


def _sure_links(known):
    """As `sure_links`, of causes."""
    links = []
    for number in range(known.many):
        pairs = [(i, j) for i in known.firsts[number] for j in known.seconds[number] if i != j]
        links.extend([(number, i, j) for i, j in pairs if known.is_sure((number, i, j))])
    return tuple(links)


def sure_links(setup, rows, causes):
    """Ascending the links that are so in all courses."""
    return _sure_links(_causes_of(setup, rows, causes))


def surely_from(setup, rows, causes, place):
    """The ascending places to which chains of sure links lead from a row, itself too."""
    known = _known_at(setup, rows, causes, place)
    links = _sure_links(known)
    led = {place: True}
    ends = [place]
    while ends:
        end = ends.pop()
        for _, i, j in links:
            if i == end and j not in led:
                led[j] = True
                ends.append(j)
    return tuple(sorted(led))
