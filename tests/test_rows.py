"""Lines of puzzles: their papers, and the Dealer behind them."""

import unittest
from fractions import Fraction
from random import Random

from duetickers.dealers import Dealer
from duetickers.finders import Found, NotYet, find_among
from duetickers.puzzles import Puzzle
from duetickers.rows import row_dealer, row_found
from tests.lots import MOST, slow_order
from tests.slow_finder import slow_find
from tests.slow_machine import WORDS
from tests.told import NO_INTEGERS, NO_LISTS, Odd, error_of, seconds_of

BOUND = 10 ** 18
NEVER = Puzzle("a a <")
PROGRAMS = [("say",), ("up", "say")]
PUZZLES = [Puzzle("a 0 ="), Puzzle("a 1 ="), Puzzle("a 7 =")]
HALVES = [(1, 2), (1, 2)]
TEXTS = ("a n =", "a -1 =", "a 1 =", "n a <", "a a <", "a 2 =", "a 0 <", "0 1 <", "a n n + =", "a -2 =", "0 a <")
STEPPED = [["say", "up"], ["say", "down"], ["swap", "say"], ["swap", "say", "up"], ["add", "say"], ["up", "say", "down"],
           ["down", "say", "up"], ["up", "up", "say", "down", "down"], ["down", "down", "say", "up", "up"]]
NO_PUZZLES = (None, True, 0, "a n =", ["a", "n", "="], object(), Odd(), Puzzle, [PUZZLES[0]])


def slow_line(programs, shares, texts, given, most):
    """The papers of a line, and the wins behind it, with the tests' own fractions and slow finder."""
    wins, papers = [0] * len(shares), []
    for text in texts:
        total = sum(wins)
        now = [Fraction(*share) if total == 0 else Fraction(*share) / 2 + Fraction(often, 2 * total)
               for share, often in zip(shares, wins)]
        pairs = slow_order([(share.denominator, share.numerator) for share in now], most)
        paper = slow_find(pairs, {place: tuple(program) for place, program in enumerate(programs)}, text, given, most)
        papers.append(paper)
        if paper:
            wins[pairs[paper.tick - 1][0]] += 1
    return (tuple(papers), tuple(wins))


def some_lines(luck, many):
    """So many drawn lines: programs, shares, texts, a given number, and ticks."""
    for _ in range(many):
        places = luck.choice((1, 2, 4, 6))
        programs = [luck.choice((*STEPPED, [luck.choice(WORDS) for _ in range(luck.randrange(5))])) for _ in range(places)]
        units = [luck.randrange(1, 20) for _ in range(places)]
        below = luck.choice((0, 0, luck.randrange(1, 20)))
        shares = [(unit, sum(units) + below) for unit in units]
        texts = [luck.choice(TEXTS) for _ in range(luck.choice((1, 3, 7, 9)))]
        yield (programs, shares, texts, luck.choice((0, 1, 2, -1, 5)), luck.choice((1, 60, 120)))


class TestExamples(unittest.TestCase):
    def test_two_puzzles(self):
        self.assertEqual(row_found(PROGRAMS, HALVES, PUZZLES[:2], 5, 100),
                         (Found(0, ("say",), 4, 7), Found(1, ("up", "say"), 5, 20)))
        found = [row_dealer(PROGRAMS, HALVES, PUZZLES[:2], 5, 100).wins,
                 row_found(PROGRAMS, HALVES, PUZZLES[1:2], 5, 100) == (Found(1, ("up", "say"), 5, 10),)]
        self.assertEqual(found, [(1, 1), True])

    def test_nothing_found(self):
        shares = [(1, 2), (1, 4)]
        found = [row_found(PROGRAMS, shares, PUZZLES[2:], 5, 9) == (NotYet(9),),
                 row_dealer(PROGRAMS, shares, PUZZLES[2:], 5, 9).wins]
        self.assertEqual(found, [True, (0, 0)])

    def test_misfit(self):
        for call in (row_found, row_dealer):
            self.assertEqual(error_of(call, PROGRAMS, [(1, 2)], PUZZLES, 5, 100), ("Misfit", "shares"))


class TestLines(unittest.TestCase):
    def test_against_a_slow_line(self):
        found, won = 0, 0
        for programs, shares, texts, given, most in some_lines(Random(110), 150):
            papers, wins = slow_line(programs, shares, texts, given, most)
            puzzles = [Puzzle(text) for text in texts]
            found, won = found + sum(map(bool, papers)), won + (len([often for often in wins if often]) > 1)
            self.assertEqual(row_found(programs, shares, puzzles, given, most), papers, (programs, shares, texts, given))
            dealer = row_dealer(programs, shares, puzzles, given, most)
            self.assertIs(type(dealer), Dealer)
            self.assertEqual((dealer.wins, dealer.shares), (wins, Dealer(shares).shares))
        self.assertGreater(min(found, won), 15)

    def test_against_find_among(self):
        compared = 0
        for programs, shares, texts, given, most in some_lines(Random(111), 150):
            puzzles, dealer = [Puzzle(text) for text in texts], Dealer(shares)
            papers = row_found(programs, shares, puzzles, given, most)
            for at, paper in enumerate(papers):
                factors = dealer.factors_now()
                if max(max(factor) for factor in factors) <= MOST:
                    compared += 1
                    self.assertEqual(find_among(programs, factors, puzzles[at], given, most), paper)
                dealer = row_dealer(programs, shares, puzzles[:at + 1], given, most)
        self.assertGreater(compared, 300)

    def test_factors_now_of_great_integers(self):
        shares = [(1, MOST - 1), (333331, MOST), (499979, 999983)]
        programs = [["say", "up"], ["swap", "say"], ["say", "down"]]
        texts = ["a 0 =", "a n =", "a 0 1 - =", "a 1 =", "a n =", "a 3 =", "a 0 5 - ="]
        dealer = row_dealer(programs, shares, [Puzzle(text) for text in texts[:3]], 9, 300)
        self.assertGreater(min(max(factor) for factor in dealer.factors_now()), MOST)
        papers, wins = slow_line(programs, shares, texts, 9, 300)
        self.assertGreater(len([paper for paper in papers if paper]), 4)
        self.assertEqual(row_found(programs, shares, [Puzzle(text) for text in texts], 9, 300), papers)
        self.assertEqual(row_dealer(programs, shares, [Puzzle(text) for text in texts], 9, 300).wins, wins)

    def test_which_of_two_alike_programs_wins(self):
        alike = [("say", "up")] * 3
        zero, one = Puzzle("a 0 ="), Puzzle("a 1 =")
        self.assertEqual(row_dealer(alike, [(1, 3)] * 3, [zero], 0, 50).wins, (1, 0, 0))
        self.assertEqual(row_dealer(alike, [(1, 4), (1, 2), (1, 4)], [zero], 0, 50).wins, (0, 1, 0))
        self.assertEqual(row_dealer(alike, [(1, 4), (1, 4), (1, 2)], [zero, one, zero], 0, 50).wins, (0, 0, 3))
        self.assertEqual(row_dealer(alike, [(1, 4), (1, 3), (1, 3)], [one], 0, 80).wins, (0, 1, 0))

    def test_a_line_cut_in_two(self):
        for programs, shares, texts, given, most in some_lines(Random(112), 40):
            puzzles = [Puzzle(text) for text in texts]
            papers = row_found(programs, shares, puzzles, given, most)
            for cut in range(1, len(puzzles)):
                self.assertEqual(row_found(programs, shares, puzzles[:cut], given, most), papers[:cut])

    def test_a_dealer_to_whom_the_wins_are_told_by_hand(self):
        for programs, shares, texts, given, most in some_lines(Random(113), 40):
            puzzles = [Puzzle(text) for text in texts]
            dealer, by_hand = row_dealer(programs, shares, puzzles, given, most), Dealer(shares)
            for place, often in enumerate(slow_line(programs, shares, texts, given, most)[1]):
                for _ in range(often):
                    by_hand.won(place)
            self.assertEqual(dealer, by_hand)
            self.assertEqual(dealer.shares_now(), by_hand.shares_now())
            self.assertEqual(dealer.won(0), by_hand.won(0))

    def test_told_again(self):
        for programs, shares, texts, given, most in some_lines(Random(114), 20):
            puzzles = [Puzzle(text) for text in texts]
            self.assertEqual(row_found(programs, shares, puzzles, given, most),
                             row_found(tuple(programs), tuple(shares), tuple(puzzles), given, most))
            first = row_dealer(programs, shares, puzzles, given, most)
            first.won(0)
            self.assertEqual(row_dealer(programs, shares, puzzles, given, most).wins,
                             row_dealer(programs, shares, puzzles, given, most).wins)
            self.assertNotEqual(row_dealer(programs, shares, puzzles, given, most), first)

    def test_programs_begin_anew_with_each_puzzle(self):
        counting = [("say", "up")]
        self.assertEqual(row_found(counting, [(1, 1)], [Puzzle("a 2 =")] * 3, 0, 50), (Found(2, ("say", "up"), 16, 16),) * 3)
        # A puzzle for which nothing is found lets nobody win.
        self.assertEqual(row_dealer(counting, [(1, 1)], [Puzzle("a 2 ="), NEVER, Puzzle("a 0 =")], 0, 16).wins, (2,))

    def test_the_last_tick(self):
        self.assertEqual(row_found(PROGRAMS, HALVES, PUZZLES[:2], 5, 7), (Found(0, ("say",), 4, 7), NotYet(7)))
        self.assertEqual(row_found(PROGRAMS, HALVES, PUZZLES[:2], 5, 6), (NotYet(6), NotYet(6)))
        self.assertEqual(row_found(PROGRAMS, HALVES, PUZZLES[:2], 5, 20)[1], Found(1, ("up", "say"), 5, 20))
        self.assertEqual(row_found(PROGRAMS, HALVES, PUZZLES[:2], 5, 19)[1], NotYet(19))


class TestArguments(unittest.TestCase):
    def errors(self, *given):
        """The error of both functions, which is the same."""
        one, other = error_of(row_found, *given), error_of(row_dealer, *given)
        self.assertEqual(one, other)
        return one

    def test_numbers_of_puzzles(self):
        for many in (1, 2, 20):
            self.assertEqual(len(row_found(PROGRAMS, HALVES, [NEVER] * many, 5, 3)), many)
        self.assertEqual(row_dealer(PROGRAMS, HALVES, [PUZZLES[0]] * 20, 5, 100).wins, (20, 0))
        for puzzles in ([], (), [NEVER] * 21):
            self.assertEqual(self.errors(PROGRAMS, HALVES, puzzles, 5, 3), ("BadPuzzle", "puzzles"))

    def test_wrong_puzzles(self):
        for wrong in NO_LISTS + (NEVER, "a n =", {NEVER.text: NEVER}, iter([NEVER])):
            self.assertEqual(self.errors(PROGRAMS, HALVES, wrong, 5, 3), ("BadPuzzle", "puzzles"))
        for wrong in NO_PUZZLES:
            for puzzles in ([wrong], [NEVER, wrong], [wrong] + [NEVER] * 19, (NEVER, wrong, NEVER)):
                self.assertEqual(self.errors(PROGRAMS, HALVES, puzzles, 5, 3), ("BadPuzzle", "puzzles"))

    def test_numbers_of_programs_and_shares(self):
        for many in (1, 2, 39, 40):
            programs = [["say"]] * many
            self.assertIsNone(self.errors(programs, [(1, 40)] * many, PUZZLES, 5, 3))
            for other in (many - 1, many + 1):
                if 1 <= other <= 40:
                    self.assertEqual(self.errors(programs, [(1, 40)] * other, PUZZLES, 5, 3), ("Misfit", "shares"))
        for programs in ([], [["say"]] * 41):
            self.assertEqual(self.errors(programs, HALVES, PUZZLES, 5, 3), ("BadProgram", "programs"))
        for shares in ([], [(1, 50)] * 41):
            self.assertEqual(self.errors(PROGRAMS, shares, PUZZLES, 5, 3), ("BadDealer", "shares"))

    def test_sums_of_shares(self):
        for shares in (HALVES, [(1, 2), (1, 3)], [(MOST - 1, MOST), (1, MOST)], [(1, MOST)] * 2):
            self.assertIsNone(self.errors(PROGRAMS, shares, PUZZLES, 5, 30))
        for shares in ([(1, 2), (2, 3)], [(MOST - 1, MOST), (1, MOST - 1)], [(2, 1), (1, 2)], [(1, 1)] * 2):
            self.assertEqual(self.errors(PROGRAMS, shares, PUZZLES, 5, 30), ("BadDealer", "shares"))

    def test_wrong_programs_and_shares(self):
        for wrong in NO_LISTS + (["end"], ["say", "end"], [None], [["say"]], ["say"] * 201, ("Say",)):
            self.assertEqual(self.errors([("say",), wrong], HALVES, PUZZLES, 5, 3), ("BadProgram", "programs"))
        for wrong in NO_LISTS + (["say"], ("say", "up"), [None], {("say",): 1}, [["say"], 5]):
            self.assertEqual(self.errors(wrong, HALVES, PUZZLES, 5, 3), ("BadProgram", "programs"))
        for wrong in NO_LISTS + ([(1, 0), (1, 2)], [(1, True), (1, 2)], [1, 2], (1, 2), [(1, 2), (1, MOST + 1)]):
            self.assertEqual(self.errors(PROGRAMS, wrong, PUZZLES, 5, 3), ("BadDealer", "shares"))

    def test_wrong_numbers(self):
        for wrong in NO_INTEGERS + (BOUND + 1, -BOUND - 1):
            self.assertEqual(self.errors(PROGRAMS, HALVES, PUZZLES, wrong, 3), ("BadNumber", "given"))
        for wrong in NO_INTEGERS + (0, -1, 20001):
            self.assertEqual(self.errors(PROGRAMS, HALVES, PUZZLES, 5, wrong), ("BadNumber", "most"))
        for given, most in ((BOUND, 1), (-BOUND, 20000)):
            self.assertIsNone(self.errors(PROGRAMS, HALVES, PUZZLES, given, most))

    def test_the_first_wrong_one_is_told(self):
        given = [PROGRAMS, [(1, 2)], PUZZLES, 5, 3]
        self.assertEqual(self.errors(*given), ("Misfit", "shares"))
        for place, wanted in ((4, ("BadNumber", "most")), (3, ("BadNumber", "given")), (2, ("BadPuzzle", "puzzles")),
                              (1, ("BadDealer", "shares")), (0, ("BadProgram", "programs"))):
            given[place] = None
            self.assertEqual(self.errors(*given), wanted)

    def test_by_name_and_what_is_passed_stays(self):
        programs, shares, puzzles = [["say"], ["up", "say"]], [[2, 4], [1, 2]], PUZZLES[:2]
        told = row_found(most=100, given=5, puzzles=puzzles, shares=shares, programs=programs)
        self.assertEqual(told, row_found(PROGRAMS, HALVES, tuple(PUZZLES[:2]), 5, 100))
        self.assertEqual(row_dealer(most=100, given=5, puzzles=puzzles, shares=shares, programs=programs).wins, (1, 1))
        self.assertEqual((programs, shares, puzzles), ([["say"], ["up", "say"]], [[2, 4], [1, 2]], PUZZLES[:2]))

    def test_short_time(self):
        programs = [["say", "up", "times", "skip", "swap"] * 40] * 40
        for shares in ([(1, MOST - 7 * place) for place in range(40)], [(MOST // 41 - place, MOST - 7 * place) for place in range(40)]):
            for puzzles in ([NEVER] * 20, [Puzzle("a a =" + " not" * 37)] * 20):
                self.assertEqual(row_found(programs, shares, puzzles, 3, 20000), (NotYet(20000),) * 20)
                self.assertLess(seconds_of(row_found, programs, shares, puzzles, 3, 20000), 20)
        # Each of the places wins at some puzzle, so that all shares now are told by great integers.
        programs = [["up"] * (place + 2) + ["say"] + ["down"] * (place + 2) for place in range(40)]
        puzzles = [Puzzle(f"a {place * 2 + 2} =") for place in range(20)]
        dealer = row_dealer(programs, shares, puzzles, 5, 20000)
        self.assertEqual(dealer.wins, (1, 0) * 20)
        self.assertLess(seconds_of(row_dealer, programs, shares, puzzles, 5, 20000), 20)


if __name__ == "__main__":
    unittest.main()
