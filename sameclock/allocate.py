"""Places for the registers of programs in the intermediate form (points 6.3 and 6.4)."""

from heapq import heappop, heappush

from sameclock.extents import extents_of
from sameclock.flow import ways_of
from sameclock.forms import is_label, is_number
from sameclock.ir_form import parts_like, register_count, written
from sameclock.ir_labels import secret_registers
from sameclock.limits import MOST_PLACES, MOST_SLOTS
from sameclock.live import live_first


def allocate(program, params):
    """Returns an allocation that fits; params are the labels of the parameters."""
    secret = secret_registers(program, params)
    extents = extents_of(program)
    places, left = _in_registers(extents)
    public_numbers, secret_numbers = _numbers_by_label(left, secret)
    mine = 0
    others = 0
    if max(_count(public_numbers), _count(secret_numbers)) > MOST_SLOTS:
        # There are no more slots, so the registers of the machine go to the label that cannot do without them.
        public_numbers, secret_numbers = _numbers_by_label(extents, secret)
        mine = max(0, _count(public_numbers) - MOST_SLOTS)
        others = MOST_PLACES - mine
    places.update(_places(public_numbers, "public", 0, mine))
    places.update(_places(secret_numbers, "secret", mine, others))
    # What has no extent is never held, so that any place is good.
    return tuple([places.get(a, ("register", 0)) for a in range(register_count(program))])


def _in_registers(extents):
    """The dict of the places of those that get registers of the machine, and the ascending list of the other extents.

    Where too many are held at a time, the one that is held the longest gets none.
    """
    places = {}
    held = {}
    left = []
    for extent in extents:
        free = [k for k in range(MOST_PLACES) if k not in held or held[k][1] < extent[0]]
        k = free[0] if free else max([(held[j][1], j) for j in held])[1]
        if not free:
            if held[k][1] <= extent[1]:
                left.append(extent)
                continue
            left.append(held[k])
        held[k] = extent
        places[extent[2]] = ("register", k)
    return (places, sorted(left))


def _numbers_by_label(extents, secret):
    """The numbers of the public registers, and those of the secret ones."""
    return (_numbers([extent for extent in extents if extent[2] not in secret]),
            _numbers([extent for extent in extents if extent[2] in secret]))


def _numbers(extents):
    """The dict of numbers for ascending extents, as few as can be; different ones where they are held at a time."""
    numbers = {}
    count = 0
    free = []
    held = []
    for first, last, a in extents:
        while held and held[0][0] < first:
            heappush(free, heappop(held)[1])
        if not free:
            heappush(free, count)
            count += 1
        numbers[a] = heappop(free)
        heappush(held, (last, numbers[a]))
    return numbers


def _count(numbers):
    return max(list(numbers.values()), default=-1) + 1


def _places(numbers, label, first, many):
    """The places for numbers: as many registers of the machine from the first one on, then slots."""
    places = {}
    for a, number in numbers.items():
        places[a] = ("register", first + number) if number < many else (label, number - many)
    return places


def fits(program, params, allocation):
    """Returns True if any value is an allocation that fits, otherwise False."""
    if not _is_allocation(allocation, register_count(program)):
        return False
    secret = secret_registers(program, params)
    for a, place in enumerate(allocation):
        if place[0] == ("public" if a in secret else "secret"):
            return False
    first = live_first(program)
    if len({allocation[a]: True for a in first[0]}) < len(first[0]):
        return False
    for block in program[2]:
        if not _block_fits(block, first, allocation):
            return False
    return True


def _is_allocation(thing, count):
    if not isinstance(thing, tuple) or len(thing) != count:
        return False
    for place in thing:
        if not _is_place(place):
            return False
    return True


def _is_place(thing):
    if not isinstance(thing, tuple) or len(thing) != 2:
        return False
    if isinstance(thing[0], str) and thing[0] == "register":
        return is_number(thing[1], 0, MOST_PLACES - 1)
    return is_label(thing[0]) and is_number(thing[1], 0, MOST_SLOTS - 1)


def _block_fits(block, first, allocation):
    """True if no row of a block writes over what is live behind it."""
    live = {a: True for way in ways_of(block) for a in first[way]}
    # How many live registers have each place.
    many = {}
    for a in live:
        many[allocation[a]] = many.get(allocation[a], 0) + 1
    for row in reversed(block):
        x = written(row)
        if x >= 0:
            if x in live:
                del live[x]
                many[allocation[x]] -= 1
            if many.get(allocation[x], 0) > 0:
                return False
        for a in parts_like(row, "read"):
            if a not in live:
                live[a] = True
                many[allocation[a]] = many.get(allocation[a], 0) + 1
    return True
