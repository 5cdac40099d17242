"""The ways between the blocks of a program in the intermediate form (point 5.2)."""

from sameclock.ir_form import parts_like


def ways_of(block):
    """Returns the tuple of the blocks that the last row of a block names."""
    return parts_like(block[-1], "block")


def ways_ahead(blocks):
    """Returns a list with, for each block, the list of the blocks of which it is a way, as often as it is."""
    found = [[] for _ in blocks]
    for number, block in enumerate(blocks):
        for way in ways_of(block):
            found[way].append(number)
    return found


def order_of(blocks):
    """Returns the list of the blocks that can be come to; all that lead to one stand ahead of it, but for ways back."""
    done = []
    seen = [False] * len(blocks)
    seen[0] = True
    trail = [(0, list(reversed(ways_of(blocks[0]))))]
    while trail:
        block, left = trail[-1]
        if not left:
            done.append(block)
            trail.pop()
            continue
        way = left.pop()
        if not seen[way]:
            seen[way] = True
            trail.append((way, list(reversed(ways_of(blocks[way])))))
    return list(reversed(done))
