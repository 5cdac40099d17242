"""What a watcher sees of runs, and what it can tell apart (points 9.1 to 9.4)."""

from sameclock.machine import run_machine

TIMED_KINDS = ("out", "touch", "drop", "stop")
OWN_KINDS = ("touch", "drop")


def mixed(code, contents, others):
    """Returns the contents with the public regions of contents and the secret regions of others."""
    found = []
    for region, row, other in zip(code[0], contents, others):
        found.append(row if region[2] == "public" else other)
    return tuple(found)


def view(trace, what):
    """Returns the view of a trace that one of the four words names."""
    if what == "lines":
        return tuple([_without_time(event) for event in trace])
    if what == "times":
        return tuple([event for event in trace if event[0] in TIMED_KINDS])
    if what == "visits":
        return tuple([_without_time(event) for event in trace if event[0] in OWN_KINDS])
    return trace


def _without_time(event):
    return event[:1] + event[2:]


def apart(first, second):
    """Returns None for equal tuples, otherwise the first index at which they differ, with what stands there."""
    for index, (x, y) in enumerate(zip(first, second)):
        if x != y:
            return (index, x, y)
    index = min(len(first), len(second))
    if len(first) > index:
        return (index, first[index], None)
    if len(second) > index:
        return (index, None, second[index])
    return None


def groups(code, contents, choices, settings, what, steps):
    """Returns the tuple of the groups of choices of secrets with equal views, by their indices."""
    found = {}
    for index, others in enumerate(choices):
        trace = run_machine(code, mixed(code, contents, others), settings, steps)[3]
        found.setdefault(view(trace, what), []).append(index)
    return tuple([tuple(group) for group in found.values()])


def learns_nothing(code, contents, choices, settings, steps):
    """Returns True if a watcher that sees all can tell no two choices of secrets apart, otherwise False."""
    return len(groups(code, contents, choices, settings, "all", steps)) <= 1
