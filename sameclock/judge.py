"""The judge of machine code (points 7.4 and 7.5)."""

from sameclock.errors import Refused
from sameclock.papers import greatest_paper, holds
from sameclock.spans import region_of


def judge(code, paper):
    """Returns None if the code may be taken with this paper, which may be any value; raises Refused otherwise."""
    if not holds(code, paper):
        raise Refused(-1, "paper")
    for r, row in enumerate(code[1]):
        word = _refusal(code[0], row, paper[r])
        if word is not None:
            raise Refused(r, word)


def taken(code):
    """Returns True if the judge takes the code with its greatest paper, otherwise False."""
    try:
        judge(code, greatest_paper(code))
    except Refused:
        return False
    return True


def _refusal(regions, row, member):
    """The word for what is wrong with a row ahead of which these registers are public, or None."""
    word = row[0]
    if word in ("branch", "out"):
        return None if row[1] in member else word
    if word == "op" and row[1] in ("div", "mod"):
        return None if row[3] in member and row[4] in member else "cost"
    if word == "load":
        return _access_refusal(regions, row[2], row[3], row[4], member)
    if word == "store":
        return _access_refusal(regions, row[1], row[2], row[3], member) or _store_refusal(regions, row, member)
    return None


def _access_refusal(regions, a, base, mask, member):
    if a not in member:
        return "address"
    return "region" if region_of(regions, base, mask) < 0 else None


def _store_refusal(regions, row, member):
    """The word for a store, whose span lies in one region."""
    label = regions[region_of(regions, row[2], row[3])][2]
    return "store" if label == "public" and row[4] not in member else None
