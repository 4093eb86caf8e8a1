"""What a channel can have been between two values: the paths of a tent."""

from wrecktold.errors import Refused
from wrecktold.words import has_parts, is_integer, is_number, need_integer, need_within


def check_tent(value):
    """Any value that is a tent, as a tuple."""
    if not has_parts(value, 4):
        raise Refused(value)
    first, last, rate, ticks = value
    if not is_integer(first) or not is_integer(last) or not is_number(rate) or not is_number(ticks):
        raise Refused(value)
    if rate == 0 or abs(first - last) > rate * ticks:
        raise Refused(value)
    return tuple(value)


def _low(tent, tick):
    """The least value of a path at a tick."""
    first, last, rate, ticks = tent
    return max(first - rate * tick, last - rate * (ticks - tick))


def _high(tent, tick):
    """The greatest value of a path at a tick."""
    first, last, rate, ticks = tent
    return min(first + rate * tick, last + rate * (ticks - tick))


def path_holds(tent, value):
    """Whether any value is a path of the tent."""
    first, last, rate, ticks = check_tent(tent)
    if not has_parts(value, ticks + 1) or not all(is_integer(part) for part in value):
        return False
    if value[0] != first or value[-1] != last:
        return False
    return all([abs(one - other) <= rate for one, other in zip(value, value[1:])])


def _need_tick(tent, tick):
    """Refuses any value that is no tick of the tent."""
    need_within(tick, 0, tent[3])


def values_at(tent, tick):
    """(low, high) of the values at a tick."""
    tent = check_tent(tent)
    _need_tick(tent, tick)
    return _low(tent, tick), _high(tent, tick)


def highest(tent):
    """The greatest value in all paths."""
    tent = check_tent(tent)
    first, last, rate, ticks = tent
    # Up to this tick the way up from the first value is the lower one, behind it
    # the way up from the last.
    tick = (last - first + rate * ticks) // (2 * rate)
    return max(_high(tent, tick), _high(tent, min(tick + 1, ticks)))


def lowest(tent):
    """The least value in all paths."""
    first, last, rate, ticks = check_tent(tent)
    return -highest((-first, -last, rate, ticks))


def _leg(start, end, ticks):
    """The values from the start on, as even as can be, up to the end, without it."""
    return tuple([start + (end - start) * tick // ticks for tick in range(ticks)])


def path_at(tent, tick, value):
    """Some path with this value at the tick."""
    tent = check_tent(tent)
    _need_tick(tent, tick)
    need_within(value, _low(tent, tick), _high(tent, tick))
    first, last, _, ticks = tent
    return _leg(first, value, tick) + _leg(value, last, ticks - tick) + (last,)


def _checked_limit(tent, limit):
    """A tent as a tuple; any value that is no integer is refused as its limit."""
    tent = check_tent(tent)
    need_integer(limit)
    return tent


def above_at(tent, limit):
    """The ascending ticks at which all paths are above the limit."""
    tent = _checked_limit(tent, limit)
    return tuple([tick for tick in range(tent[3] + 1) if _low(tent, tick) > limit])


def can_be_above(tent, limit):
    """The ascending ticks at which some path is above the limit."""
    tent = _checked_limit(tent, limit)
    return tuple([tick for tick in range(tent[3] + 1) if _high(tent, tick) > limit])


def _surely_behind(value, limit, rate):
    """For how many ticks from a value on, itself counted, all paths are above the limit."""
    return max(0, -(-(value - limit) // rate))


def _not_yet_behind(value, limit, rate):
    """For how many ticks from a value on, itself counted, no path is above the limit."""
    return max(0, (limit - value) // rate + 1)


def many_above(tent, limit):
    """(least, most): at how many ticks a path is above the limit."""
    first, last, rate, ticks = _checked_limit(tent, limit)
    # Reckoned from both ends, not counted: a tent can be far longer than what is asked of it.
    surely = _surely_behind(first, limit, rate) + _surely_behind(last, limit, rate)
    not_yet = _not_yet_behind(first, limit, rate) + _not_yet_behind(last, limit, rate)
    return min(ticks + 1, surely), max(0, ticks + 1 - not_yet)
