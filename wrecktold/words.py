"""The plain kinds of values that all other modules ask for."""

from wrecktold.errors import BadOctets, Refused


def is_integer(value):
    """Whether any value is an integer; True and False are none."""
    return isinstance(value, int) and not isinstance(value, bool)


def is_within(value, least, most):
    """Whether any value is an integer from the least to the most."""
    return is_integer(value) and least <= value <= most


def is_number(value):
    """Whether any value is an integer from 0 on."""
    return is_integer(value) and value >= 0


def is_below(value, bound):
    """Whether any value is a number below the bound."""
    return is_integer(value) and 0 <= value < bound


def is_sequence(value):
    """Whether any value is a list or a tuple."""
    return isinstance(value, (list, tuple))


def has_parts(value, many):
    """Whether any value is a sequence of just so many parts."""
    return is_sequence(value) and len(value) == many


def need_integer(value):
    """Refuses any value that is no integer."""
    if not is_integer(value):
        raise Refused(value)


def need_number(value):
    """Refuses any value that is no number."""
    if not is_number(value):
        raise Refused(value)


def need_within(value, least, most):
    """Refuses any value that is no integer from the least to the most."""
    if not is_within(value, least, most):
        raise Refused(value)


def need_octets(value):
    """Any value that is a sequence of octets, as a tuple."""
    if not is_sequence(value):
        raise BadOctets(-1)
    for at, octet in enumerate(value):
        # Spelled out, not by `is_below`: there may be many, asked for again and again.
        if not isinstance(octet, int) or isinstance(octet, bool) or octet < 0 or octet > 255:
            raise BadOctets(at)
    return tuple(value)
