"""In which region the words lie that a load or store may touch (point 7.3)."""


def region_of(regions, base, mask):
    """Returns the index of the region in which a whole span lies, or -1."""
    low = 0
    high = len(regions)
    # The last region that begins at the base or ahead of it is from low on and ahead of high.
    while low + 1 < high:
        middle = (low + high) // 2
        if regions[middle][0] <= base:
            low = middle
        else:
            high = middle
    if high == 0:
        return -1
    return low if base + mask < regions[low][0] + regions[low][1] else -1
