"""All programs of a tongue at once, in the order of dues: which step comes at which tick."""

from duetickers.checks import need_within
from duetickers.counts import counts_to, ordered_words, rank_of, ranked_program
from duetickers.errors import TooMany
from duetickers.programs import length_of, need_program
from duetickers.ratios import reduced
from duetickers.tongues import MOST_NAME, need_tongue

MOST_NUMBER = 10 ** 30
# Whatever is due by 2 to the power of this has a program of at most so many signs.
MOST_LENGTH = 399
MOST_DUE = 1 << 399
MOST_LISTED = 2000


def need_program_in(tongue, program):
    """Raise an error unless these are a Tongue and a program."""
    need_tongue(tongue)
    need_program(program)


def many_due(counts, due):
    """How many steps are due by a due, if no program that counts leaves out has a factor as great."""
    return sum([many * (due >> length) for length, many in enumerate(counts)])


def is_due_at(length, due):
    """Whether programs of this length have a step that is due just at a due."""
    return due % (1 << length) == 0


def counts_by(tongue, tick):
    """The counts of all lengths of which programs may have a step that comes by a tick."""
    return counts_to(tongue, latest_due(tick).bit_length())


def latest_due(tick):
    """A due by which so many steps are due in each tongue: the empty program alone has them."""
    return tick << MOST_NAME


def spot_at(counts, tick):
    """The due of the step at a tick, the length of its program, and its rank among those of this length."""
    low = 1
    high = latest_due(tick)
    while low < high:
        middle = (low + high) // 2
        if many_due(counts, middle) < tick:
            low = middle + 1
        else:
            high = middle
    rank = tick - many_due(counts, low - 1) - 1
    length = 0
    while rank >= counts[length]:
        rank -= counts[length]
        length += 1
    return (low, length, rank)


def whole_share(tongue):
    """The sum of the shares of all programs, a fraction."""
    need_tongue(tongue)
    sizes = [1 << (MOST_NAME - len(name)) for name in tongue.names]
    return reduced(sizes[-1], (1 << MOST_NAME) - sum(sizes[:-1]))


def tick_in(tongue, program, step):
    """The tick at which this step of the program comes."""
    need_program_in(tongue, program)
    need_within(step, 1, MOST_NUMBER, "step")
    own = length_of(tongue, program)
    due = step << own
    if due > MOST_DUE:
        raise TooMany("due", MOST_DUE)
    counts = counts_to(tongue, MOST_LENGTH)
    alike = [many for length, many in enumerate(counts) if length >= own and is_due_at(length, due)]
    # Of those due just then, of this length or longer, the program itself and those ahead of it have come.
    behind = sum(alike) - rank_of(tongue, counts, program) - 1
    return many_due(counts, due) - behind


def pair_in(tongue, tick):
    """The pair (program, step) of the step that comes at a tick."""
    need_tongue(tongue)
    need_within(tick, 1, MOST_NUMBER, "tick")
    counts = counts_by(tongue, tick)
    due, length, rank = spot_at(counts, tick)
    return (ranked_program(ordered_words(tongue), counts, length, rank), due >> length)


def made_by(tongue, program, tick):
    """How many steps of the program were made at the ticks up to this one."""
    need_program_in(tongue, program)
    need_within(tick, 0, MOST_NUMBER, "tick")
    if tick == 0:
        return 0
    own = length_of(tongue, program)
    counts = counts_by(tongue, tick)
    due, length, rank = spot_at(counts, tick)
    if own > length or own == length and rank_of(tongue, counts, program) > rank:
        # A step of the program that is due just then has not come yet.
        return (due - 1) >> own
    return due >> own


def longer_programs(ordered, rows):
    """All programs of the length behind those of which rows has all, in their order."""
    length = len(rows)
    found = []
    for name, word in ordered:
        left = length - len(name)
        if word == "end" and left == 0:
            found.append(())
        elif word != "end" and left >= 0:
            found.extend([(word, *program) for program in rows[left]])
    return found


def pairs_in(tongue, many):
    """The pairs that come at the ticks 1 to many, however many, one by one."""
    ordered = ordered_words(tongue)
    shortest = len(tongue.names[-1])
    rows = [[] for _ in range(shortest)]
    # Each factor is a multiple of the least one, that of the empty program: so are all dues.
    due = 0
    made = 0
    while made < many:
        due += 1 << shortest
        if due >= 1 << len(rows):
            rows.append(longer_programs(ordered, rows))
        coming = [length for length in range(shortest, len(rows)) if is_due_at(length, due)]
        for length in coming:
            for program in rows[length][:many - made]:
                yield (program, due >> length)
            made += min(len(rows[length]), many - made)


def order_in(tongue, many):
    """The pairs that come at the ticks 1 to many, one by one."""
    need_tongue(tongue)
    need_within(many, 0, MOST_LISTED, "many")
    yield from pairs_in(tongue, many)
