"""Things as octets: how they are written, and how they are read again."""

from wrecktold.errors import BadRow, Broken, Refused
from wrecktold.words import is_integer, is_sequence, need_number, need_octets

SIGNS = "abcdefghijklmnopqrstuvwxyz0123456789-_ "
LONGEST = 4095
DEEPEST = 40
MOST_OCTETS = 200

# A count goes to 4,095: two octets at most, the first of the two at most 15.
COUNT_OCTETS = 2
COUNT_FIRST = 15

NONE = 0
NUMBER = 1
BELOW = 2
TEXT = 3
SEQUENCE = 4


def _is_text(value):
    """Whether any value is a text."""
    if not isinstance(value, str) or len(value) > LONGEST:
        return False
    return all(sign in SIGNS for sign in value)


def _told_size(integer):
    """The number that is written for an integer, behind the kind that tells its sign."""
    return integer if integer >= 0 else -1 - integer


def _is_thing(value, deep):
    """Whether any value is a thing with at most so many sequences one within another."""
    if is_sequence(value):
        if deep == 0 or len(value) > LONGEST:
            return False
        return all(_is_thing(part, deep - 1) for part in value)
    if is_integer(value):
        return _told_size(value).bit_length() <= 8 * MOST_OCTETS
    return value is None or _is_text(value)


def is_value(value):
    """Whether any value is a thing: whether it has a form."""
    return _is_thing(value, DEEPEST)


def _row_fault(row):
    """-1 for no sequence of 1 to 4,095 parts, else the first part that is wrong in a row, else None."""
    if not is_sequence(row) or not 1 <= len(row) <= LONGEST:
        return -1
    if not _is_text(row[0]):
        return 0
    for at, part in enumerate(row):
        if not _is_thing(part, DEEPEST - 1):
            return at
    return None


def is_row(value):
    """Whether any value is a row: a sequence that is a thing, the first part of which is a text."""
    return _row_fault(value) is None


def _put_number(out, number):
    """Puts behind the octets how many octets the number needs, then these."""
    digits = []
    while number > 0:
        digits.append(number % 256)
        number = number // 256
    out.append(len(digits))
    out.extend(digits[::-1])


def _put_text(out, text):
    """Puts the form of a text behind the octets."""
    out.append(TEXT)
    _put_number(out, len(text))
    for sign in text:
        out.append(SIGNS.index(sign))


def _put_thing(out, thing):
    """Puts the form of a thing behind the octets."""
    if thing is None:
        out.append(NONE)
    elif isinstance(thing, str):
        _put_text(out, thing)
    elif is_sequence(thing):
        out.append(SEQUENCE)
        _put_number(out, len(thing))
        for part in thing:
            _put_thing(out, part)
    else:
        out.append(NUMBER if thing >= 0 else BELOW)
        _put_number(out, _told_size(thing))


def _form(thing):
    """The octets of a thing."""
    out = []
    _put_thing(out, thing)
    return tuple(out)


def write_value(value):
    """The form of a thing."""
    if not is_value(value):
        raise Refused(value)
    return _form(value)


def value_length(value):
    """How many octets the form of a thing has."""
    return len(write_value(value))


def write_row(row):
    """The form of a row."""
    at = _row_fault(row)
    if at is not None:
        raise BadRow(at)
    return _form(row)


class Reader:
    """Takes octets one by one, telling the first one with which nothing can be gone on with.

    Behind the last octet it raises Broken; or, if it heals, it adds the least
    octet that can stand there. In each place this is the one that leads to a
    whole form with the fewest octets, so what it adds is the least healing.
    """

    def __init__(self, octets, place, heals):
        self.octets = octets
        self.place = place
        self.heals = heals
        self.added = []

    def take(self, least, most):
        """The next octet, which must lie from the least to the most."""
        if self.place >= len(self.octets):
            return self.go_beyond(least)
        octet = self.octets[self.place]
        if octet < least or octet > most:
            raise Broken(self.place)
        self.place += 1
        return octet

    def go_beyond(self, least):
        """The octet that is put behind all that are there."""
        if not self.heals:
            raise Broken(len(self.octets))
        self.added.append(least)
        return least


def _take_number(reader, least, most, first):
    """A number of least to most octets; with the most of them the first one is at most the told one."""
    many = reader.take(least, most)
    number = 0
    for at in range(many):
        # A first octet of 0 would not be needed, so it is never written.
        low = 1 if at == 0 else 0
        high = first if at == 0 and many == most else 255
        number = number * 256 + reader.take(low, high)
    return number


def _take_count(reader, least):
    """How many signs or parts there are, told by no fewer octets than the least."""
    return _take_number(reader, least, COUNT_OCTETS, COUNT_FIRST)


def _take_text(reader):
    """What stands behind the kind of a text."""
    many = _take_count(reader, 0)
    return "".join([SIGNS[reader.take(0, len(SIGNS) - 1)] for sign in range(many)])


def _take_thing(reader, deep):
    """A thing that stands within so many sequences."""
    kind = reader.take(NONE, SEQUENCE if deep < DEEPEST else TEXT)
    if kind == NONE:
        return None
    if kind == TEXT:
        return _take_text(reader)
    if kind == SEQUENCE:
        many = _take_count(reader, 0)
        return tuple([_take_thing(reader, deep + 1) for part in range(many)])
    size = _take_number(reader, 0, MOST_OCTETS, 255)
    return size if kind == NUMBER else -1 - size


def _take_row(reader):
    """A row."""
    reader.take(SEQUENCE, SEQUENCE)
    many = _take_count(reader, 1)
    reader.take(TEXT, TEXT)
    parts = [_take_text(reader)]
    for part in range(many - 1):
        parts.append(_take_thing(reader, 1))
    return tuple(parts)


def reader_at(octets, at):
    """A reader of any value that is octets, from any value that is a place on."""
    octets = need_octets(octets)
    need_number(at)
    return Reader(octets, at, False)


def read_value(octets, at):
    """The thing whose form begins at this place, and the place behind it."""
    reader = reader_at(octets, at)
    thing = _take_thing(reader, 0)
    return thing, reader.place


def read_row(octets, at):
    """The row whose form begins at this place, and the place behind it."""
    reader = reader_at(octets, at)
    row = _take_row(reader)
    return row, reader.place


def whole_value(octets):
    """The thing that the octets tell, being one form and nothing more."""
    thing, behind = read_value(octets, 0)
    if behind < len(octets):
        raise Broken(behind)
    return thing


def _rows_in(octets):
    """The rows that are whole in octets, the place behind them, and what heals the rest."""
    reader = Reader(need_octets(octets), 0, True)
    rows = []
    behind = 0
    while reader.place < len(reader.octets):
        row = _take_row(reader)
        if not reader.added:
            rows.append(row)
            behind = reader.place
    return tuple(rows), behind, tuple(reader.added)


def read_rows(octets):
    """The rows that stand from the beginning on, as many as are whole, and the place behind them."""
    rows, behind, _ = _rows_in(octets)
    return rows, behind


def healing(octets):
    """The fewest octets, of these the least, behind which octets are rows and nothing more."""
    _, _, added = _rows_in(octets)
    return added
