"""Tables: which values programs of a tongue say, and with which step each one is said first."""

from duetickers.checks import BOUND, need_within
from duetickers.counts import counts_to
from duetickers.programs import factor_of
from duetickers.runs import Run
from duetickers.tongues import need_tongue
from duetickers.wholes import many_due, pairs_in

MOST_DUE = 20000


def said_table(tongue, given, due):
    """The rows (value, program, step, due) of all values said by this due, each with its first step."""
    need_tongue(tongue)
    need_within(given, -BOUND, BOUND, "given")
    need_within(due, 1, MOST_DUE, "due")
    many = many_due(counts_to(tongue, due.bit_length()), due)
    runs = {}
    rows = {}
    for program, step in list(pairs_in(tongue, many)):
        if step == 1:
            runs[program] = Run(program, given)
        value = runs[program].advance()
        if value is not None and value not in rows:
            rows[value] = (value, program, step, step * factor_of(tongue, program))
    return tuple(rows.values())
