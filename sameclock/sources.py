"""Which registers come from which other ones (point 5.5).

If x comes from y, and y from z, then x comes from z, too. So it is enough to note for each register those that it comes
from at first: its parents. It comes from these, and from what they come from.
"""

from sameclock.flow import order_of, ways_of
from sameclock.ir_form import written


class Sources:
    """The parents of each register that has some, while rows are gone through."""

    def __init__(self, parents):
        self.parents = {x: parents[x] for x in parents}
        self.children = {}
        for x, above in parents.items():
            for y in above:
                self.children.setdefault(y, {})[x] = True
        # How often each register was written, and what registers stood for when that one had been written so often.
        self.times = {}
        self.tops = {}

    def go(self, row):
        """Goes behind a row."""
        x = written(row)
        if x < 0:
            return
        self.end(x)
        if row[0] == "copy" and row[2] != x:
            self.parents[x] = (row[2],)
            self.children.setdefault(row[2], {})[x] = True

    def end(self, x):
        """From now on x comes from none, and none from x."""
        self.times[x] = self.times.get(x, 0) + 1
        self.tops.pop(x, None)
        above = self.parents.pop(x, ())
        for y in above:
            del self.children[y][x]
        below = self.children.pop(x, {})
        for z in below:
            left = [y for y in self.parents[z] if y != x]
            for y in above:
                if y not in left:
                    left.append(y)
                    self.children[y][z] = True
            if left:
                self.parents[z] = tuple(sorted(left))
            else:
                del self.parents[z]

    def stands_for(self, x):
        """The register that x stands for; x itself if it stands for no other one."""
        trail = []
        top = x
        while len(self.parents.get(top, ())) == 1:
            found, times = self.tops.get(top, (top, -1))
            if self.times.get(found, 0) == times:
                top = found
            else:
                trail.append(top)
                top = self.parents[top][0]
        if top in self.parents:
            return min([y for y in _sources(self.parents, top) if y not in self.parents])
        for y in trail:
            self.tops[y] = (top, self.times.get(top, 0))
        return top


def _sources(parents, x):
    """The dict of True of all registers that x comes from."""
    found = {}
    waiting = list(parents.get(x, ()))
    while waiting:
        y = waiting.pop()
        if y not in found:
            found[y] = True
            waiting.extend(list(parents.get(y, ())))
    return found


def sources_of(blocks, asked):
    """Returns a list with, for each block, None or the dict of the parents of registers at its beginning.

    If asked is not None, it has a dict of True for each block: what is not in it, and what nothing in it comes
    from, may be left out at the beginning of this block.
    """
    found = [None] * len(blocks)
    found[0] = {}
    order = order_of(blocks)
    waiting = {0: True}
    while waiting:
        for block in order:
            if block not in waiting:
                continue
            del waiting[block]
            held = Sources(found[block])
            for row in blocks[block]:
                held.go(row)
            for way in ways_of(blocks[block]):
                if found[way] is None:
                    found[way] = _first_parents(held.parents, None if asked is None else asked[way])
                    waiting[way] = True
                elif not _has_all(held.parents, found[way]):
                    met = _met(found[way], held.parents)
                    if met != found[way]:
                        found[way] = met
                        waiting[way] = True
    return found


def _first_parents(parents, asked):
    """What counts at the beginning of a block, as long as only one way into it is known."""
    chosen = {}
    waiting = list(parents if asked is None else asked)
    while waiting:
        x = waiting.pop()
        if x in parents and x not in chosen:
            chosen[x] = parents[x]
            waiting.extend(list(parents[x]))
    return chosen


def _has_all(parents, first):
    for x, above in first.items():
        if parents.get(x) != above:
            return False
    return True


def _met(first, second):
    """The parents of what registers come from by both."""
    met = {}
    order = _parents_first(first)
    places = {x: place for place, x in enumerate(order)}
    for x in order:
        if x in second and first[x] == second[x] and len(first[x]) == 1:
            met[x] = first[x]
        elif x in second:
            others = _sources(second, x)
            both = [(-places.get(y, -1), y) for y in _sources(first, x) if y in others]
            if both:
                met[x] = _parents([y for _, y in sorted(both)], met)
    return met


def _parents_first(parents):
    """The list of the registers that have parents, which stand ahead of them."""
    order = []
    done = {}
    for start in parents:
        trail = [start]
        while trail:
            x = trail[-1]
            left = [y for y in parents[x] if y in parents and y not in done]
            if left and x not in done:
                trail.extend(left)
                continue
            trail.pop()
            if x not in done:
                done[x] = True
                order.append(x)
    return order


def _parents(sources, parents):
    """Those of some sources that no other one of them comes from; what one comes from stands behind it."""
    found = []
    above = {}
    for y in sources:
        if y not in above:
            found.append(y)
            above.update(_sources(parents, y))
    return tuple(sorted(found))
