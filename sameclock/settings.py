"""The form of settings (points 8.1, 8.4 and 8.5)."""

from sameclock.forms import is_number
from sameclock.limits import GREATEST_ADDRESS, MOST_DEPTH, MOST_HISTORY, MOST_MISS, MOST_WRONG

SETS = (1, 2, 4, 8, 16, 32, 64)
WAYS = (1, 2, 4, 8)
LINES = (1, 2, 4, 8, 16)
COUNTERS = (1, 2, 4, 8, 16, 32, 64)
POLICIES = ("lru", "fifo", "plru")
VISIT_KINDS = ("touch", "drop")


def is_cache(thing):
    """Returns True if any value is the settings of a cache, otherwise False."""
    if not _is_tuple(thing, 4):
        return False
    sets, ways, line, policy = thing
    return _is_one_of(sets, SETS) and _is_one_of(ways, WAYS) and _is_one_of(line, LINES) and policy in POLICIES


def is_predictor(thing):
    """Returns True if any value is the settings of a predictor, otherwise False."""
    if thing == ("taken",):
        return True
    if not _is_tuple(thing, 2):
        return False
    if thing[0] == "two":
        return _is_one_of(thing[1], COUNTERS)
    return thing[0] == "history" and is_number(thing[1], 1, MOST_HISTORY)


def is_settings(thing):
    """Returns True if any value is the settings of the machine, otherwise False."""
    if not _is_tuple(thing, 7):
        return False
    data, fetch, guess, depth, costs, before, visits = thing
    if not is_cache(data) or not is_cache(fetch) or not is_predictor(guess) or not is_number(depth, 0, MOST_DEPTH):
        return False
    if not _is_tuple(costs, 2) or not is_number(costs[0], 0, MOST_MISS) or not is_number(costs[1], 1, MOST_WRONG):
        return False
    return _are_preparations(before) and _are_visits(visits)


def _are_preparations(thing):
    if not isinstance(thing, tuple):
        return False
    for preparation in thing:
        if not _is_preparation(preparation):
            return False
    return True


def _is_preparation(thing):
    if _is_tuple(thing, 2):
        return thing[0] in ("data", "fetch") and is_number(thing[1], 0, GREATEST_ADDRESS)
    if _is_tuple(thing, 3):
        return thing[0] == "branch" and is_number(thing[1], 0, GREATEST_ADDRESS) and isinstance(thing[2], bool)
    return False


def _are_visits(thing):
    if not isinstance(thing, tuple):
        return False
    least = 0
    for visit in thing:
        if not _is_tuple(visit, 3) or not is_number(visit[0], least, GREATEST_ADDRESS):
            return False
        if visit[1] not in VISIT_KINDS or not is_number(visit[2], 0, GREATEST_ADDRESS):
            return False
        least = visit[0]
    return True


def _is_tuple(thing, count):
    return isinstance(thing, tuple) and len(thing) == count


def _is_one_of(thing, numbers):
    """True if any value is one of some numbers, and not a truth that is equal to one."""
    return is_number(thing, numbers[0], numbers[-1]) and thing in numbers
