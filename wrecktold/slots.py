"""A ring of slots: what lies in them, and where it goes on."""

from wrecktold.words import is_integer, is_number, is_sequence, need_number, need_within

LEAST_SLOTS = 2
MOST_SLOTS = 64

TORN = "torn"


def need_slots(value):
    """Refuses any value that is no number of slots of a ring."""
    need_within(value, LEAST_SLOTS, MOST_SLOTS)


def slot_of(many, number):
    """The slot of a block in a ring of so many slots without anything to be kept."""
    need_slots(many)
    need_number(number)
    return number % many


def _row(many, count):
    """By slot the greatest of the blocks below the count that are laid there, `None` if there is none."""
    return [count - 1 - (count - 1 - slot) % many if slot < count else None for slot in range(many)]


def ring_row(many, count):
    """The row behind the laying of as many blocks."""
    need_slots(many)
    need_number(count)
    return tuple(_row(many, count))


def torn_row(many, count):
    """The row behind the laying of as many blocks, that of the next one having been cut."""
    row = list(ring_row(many, count))
    row[count % many] = TORN
    return tuple(row)


def is_torn(value):
    """Whether any value is the word for what was cut."""
    return isinstance(value, str) and value == TORN


def has_row_form(value):
    """Whether any value is a sequence of 2 to 64 slots, each of them empty, torn, or with a number."""
    if not is_sequence(value) or not LEAST_SLOTS <= len(value) <= MOST_SLOTS:
        return False
    return all(part is None or is_torn(part) or is_number(part) for part in value)


def next_number(row):
    """One more than the greatest number in a row, 0 if there is none."""
    return max([part + 1 for part in row if is_integer(part)], default=0)


def is_ring_row(value):
    """Whether any value is a row of some count, torn or not."""
    if not has_row_form(value):
        return False
    row = tuple(value)
    count = next_number(row)
    return row in (ring_row(len(row), count), torn_row(len(row), count))


def most_looks(many):
    """At how many slots `newest` looks at most."""
    need_slots(many)
    looks = 1
    size = 1
    while size < many:
        size = size * 2
        looks += 1
    return looks


def _search(row, first):
    """The greatest number of a block, slot 0 having the first one of its lap, and the slots looked at."""
    looks = [0]
    low = 0
    high = len(row)
    while high - low > 1:
        middle = (low + high) // 2
        looks.append(middle)
        if row[middle] == first + middle:
            low = middle
        else:
            high = middle
    return first + low, tuple(looks)


def newest(row):
    """(the greatest number of a block or `None`, the number to go on with, the slots looked at)."""
    first = row[0]
    if first is None:
        return None, 0, (0,)
    if is_integer(first):
        number, looks = _search(row, first)
        return number, number + 1, looks
    # Slot 0 is torn, so the lap ahead was gone through to the last slot.
    final = len(row) - 1
    number = row[final]
    return number, (0 if number is None else number + 1), (0, final)


def goes_on(row):
    """(slot, number) of the next block."""
    _, number, _ = newest(row)
    return number % len(row), number
