"""Lines of puzzles, which some programs go through one behind another, with shares dealt anew to who found."""

from duetickers.checks import is_row
from duetickers.dealers import Dealer
from duetickers.dues import pairs_to
from duetickers.errors import BadPuzzle, Misfit
from duetickers.finders import found_among, need_numbers, need_programs
from duetickers.puzzles import Puzzle

MOST_PUZZLES = 20


def need_puzzles(puzzles):
    """Raise an error unless puzzles is a list of 1 to 20 Puzzles."""
    if not is_row(puzzles, 1, MOST_PUZZLES) or not all([isinstance(puzzle, Puzzle) for puzzle in puzzles]):
        raise BadPuzzle("puzzles")


def papers_and_dealer(programs, shares, puzzles, given, most):
    """The papers of a line, one for each puzzle, and the Dealer behind it."""
    need_programs(programs)
    dealer = Dealer(shares)
    need_puzzles(puzzles)
    need_numbers(given, most)
    if len(programs) != len(shares):
        raise Misfit("shares")
    papers = []
    for puzzle in puzzles:
        pairs = pairs_to(dealer.factors_now(), most)
        paper = found_among(programs, pairs, puzzle, given)
        papers.append(paper)
        if paper:
            # The place is told by the tick, as several places may have the same program.
            dealer.won(pairs[paper.tick - 1][0])
    return (tuple(papers), dealer)


def row_found(programs, shares, puzzles, given, most):
    """The papers of the line, one for each puzzle."""
    return papers_and_dealer(programs, shares, puzzles, given, most)[0]


def row_dealer(programs, shares, puzzles, given, most):
    """The Dealer behind the line."""
    return papers_and_dealer(programs, shares, puzzles, given, most)[1]
