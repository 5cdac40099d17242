"""Which registers come from which other ones (point 5.5)."""

from sameclock.flow import order_of, ways_of
from sameclock.ir_form import written


class Sources:
    """What each register comes from, while rows are gone through."""

    def __init__(self, sources):
        self.sources = {x: dict(found) for x, found in sources.items()}
        # The other way round: what comes from each register.
        self.copied = {}
        for x, found in sources.items():
            for y in found:
                self.copied.setdefault(y, {})[x] = True

    def go(self, row):
        """Goes behind a row."""
        x = written(row)
        if x < 0:
            return
        found = {}
        if row[0] == "copy" and row[2] != x:
            found = {y: True for y in self.sources.get(row[2], {}) if y != x}
            found[row[2]] = True
        self.end(x)
        if found:
            self.sources[x] = found
            for y in found:
                self.copied.setdefault(y, {})[x] = True

    def end(self, x):
        """From now on x comes from none, and none from x."""
        for y in self.sources.pop(x, {}):
            del self.copied[y][x]
        for z in self.copied.pop(x, {}):
            del self.sources[z][x]
            if not self.sources[z]:
                del self.sources[z]

    def stands_for(self, x):
        """The register that x stands for; x itself if it stands for no other one."""
        return min([y for y in self.sources.get(x, {}) if y not in self.sources], default=x)


def sources_of(blocks, asked):
    """Returns a list with, for each block, None or the dict of what each register comes from at its beginning.

    If asked is not None, it has a dict of True for each block: what is not in it, and what nothing in it comes
    from, may be left out at the beginning of this block.
    """
    found = [None] * len(blocks)
    found[0] = {}
    order = order_of(blocks)
    waiting = {0: True}
    while waiting:
        for block in order:
            if block not in waiting:
                continue
            del waiting[block]
            held = Sources(found[block])
            for row in blocks[block]:
                held.go(row)
            for way in ways_of(blocks[block]):
                if found[way] is None:
                    found[way] = _first_sources(held.sources, None if asked is None else asked[way])
                    waiting[way] = True
                elif _pairs(found[way]) > 0:
                    met = _met(found[way], held.sources)
                    if _pairs(met) < _pairs(found[way]):
                        found[way] = met
                        waiting[way] = True
    return found


def _first_sources(sources, asked):
    """What counts at the beginning of a block, as long as only one way into it is known."""
    chosen = sources
    if asked is not None:
        chosen = {}
        for x in asked:
            if x in sources:
                chosen[x] = True
                chosen.update({y: True for y in sources[x] if y in sources})
    return {x: dict(sources[x]) for x in chosen}


def _met(first, second):
    met = {}
    for x, found in first.items():
        both = {y: True for y in found if y in second.get(x, {})}
        if both:
            met[x] = both
    return met


def _pairs(sources):
    return sum([len(found) for found in sources.values()])
