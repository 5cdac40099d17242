"""Passes over programs in the intermediate form (part 5)."""

from sameclock.endings import Endings
from sameclock.flow import order_of, ways_ahead
from sameclock.ir_form import FORMS, parts_like, written
from sameclock.known import known_of, number_of, ways_gone
from sameclock.live import live_first
from sameclock.needs import Needs
from sameclock.present import Present, value_of
from sameclock.sources import Sources, sources_of

# The signs for which a known 0 or 1, ahead or behind, leaves the other operand as it is.
ZERO_AHEAD = ("+", "|", "^")
ZERO_BEHIND = ("+", "|", "^", "-", "<<", ">>")
ONE_AHEAD = ("*",)
ONE_BEHIND = ("*", "div")


def fold(program):
    """Returns the program with known numbers put in (5.4)."""
    arrays, params, blocks = program
    # What is not live is written before it is read, so it changes no row.
    known = known_of(program, live_first(program))
    folded = [block if held is None else _folded(block, held) for block, held in zip(blocks, known)]
    return (arrays, params, tuple(folded))


def _folded(block, known):
    held = dict(known)
    rows = []
    for row in block:
        target = written(row)
        if target < 0:
            rows.append(row)
            continue
        number = number_of(row, held)
        if number is not None:
            rows.append(("const", target, number))
            held[target] = number
        else:
            rows.append(_simpler(row, held))
            held.pop(target, None)
    ways = ways_gone(block, held)
    if block[-1][0] == "branch" and len(ways) == 1:
        rows[-1] = ("jump", ways[0])
    return tuple(rows)


def _simpler(row, known):
    """A row whose result is not known, as a copy if it can be one."""
    if row[0] == "select":
        if row[2] in known:
            return ("copy", row[1], row[3] if known[row[2]] != 0 else row[4])
        return ("copy", row[1], row[3]) if row[3] == row[4] else row
    if row[0] == "op":
        sign, target, a, b = row[1:]
        if _leaves(known.get(b), sign, ZERO_BEHIND, ONE_BEHIND):
            return ("copy", target, a)
        if _leaves(known.get(a), sign, ZERO_AHEAD, ONE_AHEAD):
            return ("copy", target, b)
    return row


def _leaves(number, sign, zero, one):
    return (number == 0 and sign in zero) or (number == 1 and sign in one)


def stand_for(program):
    """Returns a list with, for each block, None or the dict of what registers stand for at its beginning (5.5)."""
    found = []
    for sources in sources_of(program[2], None):
        if sources is None:
            found.append(None)
        else:
            held = Sources(sources)
            found.append({x: held.stands_for(x) for x in sorted(sources)})
    return found


def copies(program):
    """Returns the program that reads, in the place of registers, those that they stand for (5.6)."""
    arrays, params, blocks = program
    found = sources_of(blocks, live_first(program))
    changed = [block if sources is None else _read_from(block, sources) for block, sources in zip(blocks, found)]
    return (arrays, params, tuple(changed))


def _read_from(block, sources):
    held = Sources(sources)
    rows = []
    for row in block:
        if row[0] == "copy" and row[1] == row[2]:
            rows.append(row)
        else:
            kinds = ("sign",) + FORMS[row[0]]
            rows.append(tuple([held.stands_for(part) if kind == "read" else part for part, kind in zip(row, kinds)]))
        held.go(row)
    return tuple(rows)


def common(program):
    """Returns the program in which values that are there are copied (5.7)."""
    arrays, params, blocks = program
    times = {number: 1 for number in range(params)}
    for block in blocks:
        for row in block:
            times[written(row)] = times.get(written(row), 0) + 1
    return (arrays, params, tuple([_shared(block, times) for block in blocks]))


def _shared(block, times):
    present = Present()
    rows = []
    for row in block:
        value = value_of(row)
        if value in present.noted:
            rows.append(("copy", written(row), present.noted[value]))
            present.go(row)
            continue
        rows.append(row)
        present.go(row)
        if value is not None and times[written(row)] == 1 and written(row) not in parts_like(row, "read"):
            present.note(row)
    return tuple(rows)


def needed_at(program):
    """Returns a list with, for each block, the ascending tuple of the registers that are needed at its beginning."""
    return [tuple(sorted(needed)) for needed in Needs(program[2]).needed]


def dead(program):
    """Returns the program without the rows that write registers that are not needed (5.8)."""
    arrays, params, blocks = program
    left = []
    for block, kept in zip(blocks, Needs(blocks).kept):
        left.append(tuple([row for row, keep in zip(block, kept) if keep]))
    return (arrays, params, tuple(left))


def jumps(program):
    """Returns the program with fewer jumps and blocks (5.9).

    The first two changes do not depend on the others, and neither of the others makes one of the first two possible.
    Nor does it matter in which order blocks are taken over: each of them is taken over by one block alone.
    """
    arrays, params, blocks = program
    ended = tuple([block[:-1] + (last,) for block, last in zip(blocks, Endings(blocks).lasts)])
    return (arrays, params, _come_to(_joined(_come_to(ended))))


def _come_to(blocks):
    """The blocks that can be come to, with new numbers."""
    kept = sorted(order_of(blocks))
    numbers = {block: number for number, block in enumerate(kept)}
    return tuple([blocks[block][:-1] + (_renamed(blocks[block][-1], numbers),) for block in kept])


def _renamed(row, numbers):
    kinds = ("word",) + FORMS[row[0]]
    return tuple([numbers[part] if kind == "block" else part for part, kind in zip(row, kinds)])


def _joined(blocks):
    """The blocks, of which each has taken over those that it alone leads to by a jump."""
    ahead = ways_ahead(blocks)
    over = [False] * len(blocks)
    for block in range(1, len(blocks)):
        over[block] = len(ahead[block]) == 1 and blocks[ahead[block][0]][-1][0] == "jump"
    joined = []
    for block, rows in enumerate(blocks):
        taken = list(rows)
        while not over[block] and taken[-1][0] == "jump" and over[taken[-1][1]]:
            taken.extend(blocks[taken.pop()[1]])
        joined.append(tuple(taken))
    return tuple(joined)


PASSES = {"fold": fold, "copies": copies, "common": common, "dead": dead, "jumps": jumps}


def optimise(program, names):
    """Returns the program behind the passes with these names, done one after the other."""
    done = program
    for name in names:
        action = PASSES[name]
        done = action(done)
    return done
