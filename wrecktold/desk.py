"""A desk: a flight that is led along by lines, and asked by lines what its wreck tells."""

from wrecktold.errors import BadText, NoChannel, NoHappening, Quarrel, WreckError
from wrecktold.happenings import is_word
from wrecktold.limits import limit_word
from wrecktold.meaning import wreck_order, wreck_stretch
from wrecktold.world import World

FIGURES = "0123456789"
MOST_FIGURES = 9

# What there is to say where there is nothing to tell.
NOTHING = "-"


def _number(word):
    """The number that a word tells, `None` if it tells none."""
    if not 1 <= len(word) <= MOST_FIGURES or not all(sign in FIGURES for sign in word):
        return None
    return None if word[0] == "0" and len(word) > 1 else int(word)


def _integer(word):
    """The integer that a word tells, `None` if it tells none."""
    if not word.startswith("-"):
        return _number(word)
    told = _number(word[1:])
    return None if told is None or told == 0 else -told


def _numbers(words):
    """The numbers that words tell, `None` if some word tells none."""
    told = [_number(word) for word in words]
    return None if None in told else tuple(told)


def _nothing(words):
    """What a line of one word asks, `None` if there is more."""
    return () if not words else None


def _one(words):
    """The number that one word tells, else `None`."""
    return _numbers(words) if len(words) == 1 else None


def _two(words):
    """The numbers that two words tell, else `None`."""
    return _numbers(words) if len(words) == 2 else None


def _reading(word):
    """The reading that a word tells, `None` if it tells none."""
    channel, _, value = word.partition(":")
    told = _number(channel), _integer(value)
    return None if None in told else told


def _hearing(words):
    """(rstamp, frame, `None` steps), `None` if words don't tell it."""
    numbers = _numbers(words[:5])
    readings = [_reading(word) for word in words[5:]]
    if len(words) < 5 or numbers is None or None in readings:
        return None
    return numbers[0], numbers[1:] + (tuple(readings),), None


def _cut_hearing(words):
    """(rstamp, frame, steps), `None` if words don't tell it."""
    steps = _one(words[:1])
    told = _hearing(words[2:])
    if steps is None or words[1:2] != ["hear"] or told is None:
        return None
    return told[:2] + steps


def _happening(words):
    """The happening that two words tell, `None` if they tell none."""
    number = _one(words[1:])
    return (words[0],) + number if number is not None and is_word(words[0]) else None


def _two_happenings(words):
    """The happenings that four words tell, else `None`."""
    told = _happening(words[:2]), _happening(words[2:])
    return None if None in told else told


def _limit(words):
    """(channel, limit), `None` if words don't tell it."""
    if len(words) != 2:
        return None
    told = _number(words[0]), _integer(words[1])
    return None if None in told else told


# By the first word of a line what its other words must tell: `None` where they don't.
READERS = {
    "hear": _hearing,
    "cut": _cut_hearing,
    "ask": _two,
    "release": _one,
    "lose": _one,
    "restart": _numbers,
    "told": _nothing,
    "blocks": _nothing,
    "asks": _nothing,
    "time": _two_happenings,
    "order": _two_happenings,
    "limit": _limit,
}


def _listed(words):
    """Words with blanks between them."""
    return " ".join(words) if words else NOTHING


def _bound(value):
    """A bound, or that there is none."""
    return NOTHING if value is None else str(value)


def _need_told(world):
    """(numbers, rows, asks) that the wreck tells."""
    told = world.told()
    if told[0] == "quarrel":
        raise Quarrel(told[1])
    return told[1:]


def _say_heard(world, told):
    """Hears a frame, perhaps cut."""
    rstamp, frame, steps = told
    number = world.hear(rstamp, frame, steps)
    return "cut" if number is None else f"block {number}"


def _say_given(world, told):
    """Asks for a stretch."""
    given = world.ask(told[0], told[1])
    if given is None:
        return "no"
    name, first, last = given
    return f"given {name} {first} {last}"


def _say_released(world, told):
    """Lets go an ask."""
    return f"block {world.release(told[0])}"


def _say_lost(world, told):
    """Loses a chip."""
    world.lose(told[0])
    return "ok"


def _say_started(world, told):
    """Starts anew, perhaps cut again and again."""
    return f"boot {world.restart(told)}"


def _say_told(world, told):
    """Whether the rows can be true."""
    meant = world.told()
    return "told" if meant[0] == "told" else f"quarrel {meant[1][0]}"


def _say_blocks(world, told):
    """The blocks whose rows are told."""
    numbers, _, _ = _need_told(world)
    return _listed([str(number) for number in numbers])


def _say_asks(world, told):
    """The asks in force."""
    _, _, asks = _need_told(world)
    return _listed([f"{name}:{first}:{last}" for name, first, last in asks])


def _say_time(world, told):
    """The least and the greatest time between two happenings."""
    least, greatest = wreck_stretch(world.setup, world.shape, world.wreck(), told[0], told[1])
    return f"{_bound(least)} {_bound(greatest)}"


def _say_order(world, told):
    """How one happening stands to another one."""
    return wreck_order(world.setup, world.shape, world.wreck(), told[0], told[1])


def _say_limit(world, told):
    """How a limit stands over all rows."""
    _, rows, _ = _need_told(world)
    return limit_word(world.setup, rows, told[0], told[1])


ANSWERS = {
    "hear": _say_heard,
    "cut": _say_heard,
    "ask": _say_given,
    "release": _say_released,
    "lose": _say_lost,
    "restart": _say_started,
    "told": _say_told,
    "blocks": _say_blocks,
    "asks": _say_asks,
    "time": _say_time,
    "order": _say_order,
    "limit": _say_limit,
}


def _asked(words):
    """What the words of a line tell behind the first one, `None` if they have none of the forms."""
    if words[0] not in READERS:
        return None
    reader = READERS[words[0]]
    return reader(words[1:])


class Desk:
    """A flight that is led along and asked by lines."""

    def __init__(self, setup, shape):
        self.world = World(setup, shape)

    def say(self, line):
        """Does what a line tells; what there is to say."""
        words = line.split(" ") if isinstance(line, str) else [""]
        told = _asked(words)
        if told is None:
            raise BadText(0)
        answer = ANSWERS[words[0]]
        try:
            return answer(self.world, told)
        except (WreckError, NoHappening, NoChannel):
            return "refused"
