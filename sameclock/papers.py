"""Papers for machine code: which registers hold public values (points 7.1 to 7.3, and 7.5)."""

from sameclock.code_form import REGISTERS, reads, writes
from sameclock.forms import is_number
from sameclock.spans import region_of


def public_behind(code, r, member):
    """Returns the ascending tuple of the registers that are public behind row r."""
    row = code[1][r]
    x = writes(row)
    if x < 0:
        return tuple(member)
    public = {a: True for a in member}
    public[x] = _makes_public(code[0], row, public)
    return tuple([a for a in sorted(public) if public[a]])


def _makes_public(regions, row, public):
    """True if a row writes a public value; public tells which registers are public ahead of it."""
    if row[0] == "load":
        region = region_of(regions, row[3], row[4])
        return region >= 0 and regions[region][2] == "public"
    for a in reads(row):
        if a not in public:
            return False
    return True


def ways(code, r):
    """Returns the ascending tuple of the rows that may come after row r."""
    row = code[1][r]
    found = {}
    if row[0] not in ("jump", "stop"):
        found[r + 1] = True
    if row[0] in ("jump", "branch"):
        found[row[-1]] = True
    return tuple(sorted(found))


def holds(code, paper):
    """Returns True if any value is a paper that holds, otherwise False."""
    if not is_paper(code, paper):
        return False
    for r, member in enumerate(paper):
        public = {a: True for a in public_behind(code, r, member)}
        for way in ways(code, r):
            for a in paper[way]:
                if a not in public:
                    return False
    return True


def is_paper(code, thing):
    """Returns True if any value has the form of a paper for some code."""
    if not isinstance(thing, tuple) or len(thing) != len(code[1]):
        return False
    for member in thing:
        if not isinstance(member, tuple):
            return False
        least = 0
        for a in member:
            if not is_number(a, least, REGISTERS - 1):
                return False
            least = a + 1
    return True


def greatest_paper(code):
    """Returns the greatest paper that holds."""
    members = [tuple(range(REGISTERS))] * len(code[1])
    waiting = list(reversed(range(len(code[1]))))
    while waiting:
        r = waiting.pop()
        behind = public_behind(code, r, members[r])
        for way in ways(code, r):
            left = tuple([a for a in members[way] if a in behind])
            if left != members[way]:
                members[way] = left
                waiting.append(way)
    return tuple(members)
