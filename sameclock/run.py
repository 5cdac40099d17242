"""Texts as machine code that is run (part 10)."""

from sameclock.allocate import allocate
from sameclock.check import typed
from sameclock.emit import emit
from sameclock.judge import judge
from sameclock.lower import lower
from sameclock.machine import run_machine
from sameclock.papers import greatest_paper
from sameclock.passes import optimise

ROUND = ("fold", "jumps", "copies", "common", "copies", "dead", "jumps")
MOST_ROUNDS_OF_PASSES = 3
MOST_STEPS = 1000000


def compile_text(text, *, optimised=True):
    """Returns the machine code of a text; raises what is wrong with the text."""
    return _compiled(text, optimised)[1]


def run_text(text, inputs, contents, settings, *, optimised=True):
    """Runs a text on the machine; returns the outs, the result, the arrays at the end, and the trace."""
    arrays, code = _compiled(text, optimised)
    judge(code, greatest_paper(code))
    return _run(arrays, code, inputs, contents, settings)


def same_trace(text, first, second, settings):
    """Returns True if two runs, each with a pair of inputs and contents, have equal traces, otherwise False."""
    arrays, code = _compiled(text, True)
    return _run(arrays, code, first[0], first[1], settings)[3] == _run(arrays, code, second[0], second[1], settings)[3]


def _compiled(text, optimised):
    """The arrays of a program in the intermediate form, and its machine code."""
    program = typed(text)
    made = lower(program)
    if optimised:
        made = _optimised(made)
    params = program[2][1]
    return (made[0], emit(made, params, allocate(made, params)))


def _optimised(program):
    """The program behind rounds of all passes, until one changes nothing more."""
    made = program
    for _ in range(MOST_ROUNDS_OF_PASSES):
        before = made
        made = optimise(before, ROUND)
        if made == before:
            break
    return made


def _run(arrays, code, inputs, contents, settings):
    outs, result, ends, trace = run_machine(code, _regions_at_start(code, inputs, contents), settings, MOST_STEPS)
    cells = tuple([row[:length] for row, (_, length, _) in zip(ends, arrays)])
    return (outs, result, cells, trace)


def _regions_at_start(code, inputs, contents):
    """What the regions hold: the arrays, then the inputs, one in each, and 0 behind the arrays and in the slots."""
    rows = list(contents) + [(word,) for word in inputs]
    rows.extend([()] * (len(code[0]) - len(rows)))
    return tuple([tuple(row) + (0,) * (size - len(row)) for row, (_, size, _) in zip(rows, code[0])])
