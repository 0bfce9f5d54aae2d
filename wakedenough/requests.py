"""Days: which machines fall and are mended, and which requests come, tick by tick."""

from wakedenough.sheets import require, require_members
from wakedenough.words import is_name, is_number


def look_at_machines(names, value, path):
    """Raise BadTree with the first wrong part of what should be a tuple of unlike names of machines."""
    require(isinstance(value, tuple), path)
    left = {name: True for name in names}
    for k, name in enumerate(value):
        require(isinstance(name, str) and name in left, path + (k,))
        del left[name]


def look_at_request(value, known, path):
    """Raise BadTree with the first wrong part of what should be a request, some names being known."""
    require_members(value, path, 2)
    name, length = value
    require(is_name(name) and name not in known, path + (0,))
    require(is_number(length) and length >= 1, path + (1,))


def check_day(names, value):
    """Raise BadTree with the first wrong part if a value is no day with some machines."""
    require(isinstance(value, tuple), ())
    known = {}
    for t, tick in enumerate(value):
        require_members(tick, (t,), 3)
        falls, mends, requests = tick
        look_at_machines(names, falls, (t, 0))
        look_at_machines(names, mends, (t, 1))
        require(isinstance(requests, tuple), (t, 2))
        for k, request in enumerate(requests):
            look_at_request(request, known, (t, 2, k))
            known[request[0]] = True


def running_counts(ticks, spans):
    """Return the tuple of how many spans, pairs (begin, length), are there, for so many ticks."""
    changes = [0] * (ticks + 1)
    for begin, length in spans:
        changes[min(begin, ticks)] += 1
        changes[min(begin + length, ticks)] -= 1
    counts = []
    many = 0
    for change in changes[:ticks]:
        many = many + change
        counts.append(many)
    return tuple(counts)


def spans_of(day):
    """Return the list of when requests come, from the begin of a day, and how long they are."""
    return [(t, length) for t, tick in enumerate(day) for _, length in tick[2]]


def day_needs(day):
    """Return the need row of a day, for halls in which nothing is unmet."""
    return running_counts(len(day), spans_of(day))
