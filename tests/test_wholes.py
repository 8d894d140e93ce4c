"""All programs of a tongue at once: ticks of steps, steps of ticks, the order one by one."""

import inspect
import unittest
from fractions import Fraction
from itertools import islice
from random import Random

from duetickers.counts import program_at
from duetickers.programs import factor_of, length_of
from duetickers.wholes import made_by, order_in, pair_in, tick_in, whole_share
from tests.tongue_list import (ALL, EARLY, LONG, PLAIN, QUICK, SHORT, SPARSE, STEEP, WORDS, of_lengths, slow_steps,
                               texts_within)
from tests.told import NO_INTEGERS, NO_LISTS, error_of, seconds_of

FAR = 10 ** 30
LAST = 2 ** 399
NO_TONGUES = NO_LISTS + (PLAIN.names, list(PLAIN.names), str(PLAIN))
NO_PROGRAMS = NO_LISTS + ("say", ["end"], ["say", "end"], ("Say",), [None], [["say"]], ["say"] * 201, {"say": 1})
# To which power of 2 dues go, so that the slow list of a tongue is long enough and not too long.
REACH = ((SPARSE, 13), (LONG, 17), (STEEP, 11), (EARLY, 11))


def reach(tongue):
    """To which power of 2 the slow list of a tongue goes."""
    return next((most for other, most in REACH if other == tongue), 12)


def first_pairs(tongue, many):
    """The pairs that the generator gives, as a list."""
    return list(order_in(tongue, many))


def some_tongues():
    """The tongues of the list, and some with names of all lengths whose shares sum to 1 and to less."""
    luck, found = Random(40), list(ALL)
    while len(found) < 16:
        lengths = [luck.randrange(2, 9) for _ in range(8)]
        if sum(Fraction(1, 2 ** length) for length in lengths) <= 1:
            found.append(of_lengths(lengths))
    return found + [of_lengths([8, 8, 8, 8, 8, 8, 8, 1]), of_lengths([1, 8, 8, 8, 8, 8, 8, 8])]


class TestExamples(unittest.TestCase):
    def test_shares(self):
        self.assertEqual([whole_share(PLAIN), whole_share(SHORT), whole_share(SPARSE)], [(1, 1), (1, 1), (1, 9)])

    def test_plain(self):
        found = [tick_in(PLAIN, [], 8), tick_in(PLAIN, ["say"], 1), tick_in(PLAIN, ["skip"], 1),
                 tick_in(PLAIN, ["say"], 4)]
        self.assertEqual(found, [8, 9, 15, 54])
        found = [pair_in(PLAIN, 8), pair_in(PLAIN, 9), pair_in(PLAIN, 16), pair_in(PLAIN, 54)]
        self.assertEqual(found, [((), 8), (("say",), 1), ((), 9), (("say",), 4)])
        found = [made_by(PLAIN, [], 54), made_by(PLAIN, ["say"], 54), made_by(PLAIN, ("say",), 53),
                 made_by(PLAIN, ["skip"], 54), made_by(PLAIN, ["say", "say"], 54), made_by(PLAIN, [], 0)]
        self.assertEqual(found, [32, 4, 3, 3, 0, 0])

    def test_sparse_and_short(self):
        found = [tick_in(SPARSE, [], 16), pair_in(SPARSE, 17), tick_in(SPARSE, ["skip"], 1), tick_in(SPARSE, [], 17)]
        self.assertEqual(found, [16, (("say",), 1), 23, 24])
        self.assertEqual(first_pairs(SHORT, 6), [((), 1), ((), 2), ((), 3), ((), 4), (("say",), 1), (("up",), 1)])

    def test_far(self):
        self.assertEqual(tick_in(PLAIN, (), FAR), 7909292328726624952629043927040)
        self.assertEqual(error_of(tick_in, PLAIN, ["say"] * 132, 2), (
            "TooMany", "due",
            1291124939043454294827959586001505937164852896414611756415329678270323811008420597314822676640068915717951585986373746688))


class TestShares(unittest.TestCase):
    def test_by_sums_of_powers(self):
        for tongue in some_tongues():
            shares = [Fraction(1, 2 ** len(name)) for name in tongue.names]
            total = Fraction(*whole_share(tongue))
            self.assertEqual(total * (1 - sum(shares[:-1])), shares[-1])
            self.assertEqual(whole_share(tongue), (total.numerator, total.denominator))
            self.assertIs(total == 1, sum(shares) == 1)

    def test_by_the_shares_of_the_programs(self):
        # Where the seven other names are alike long, the programs of at most so many words leave out a power of their sum.
        for tongue, size in ((PLAIN, 3), (SPARSE, 4), (LONG, 8)):
            part = sum(Fraction(1, 2 ** len(text)) for text in texts_within(tongue, 3 * size))
            total = Fraction(*whole_share(tongue=tongue))
            self.assertEqual(part, total * (1 - Fraction(7, 2 ** size) ** 3))
        self.assertEqual([whole_share(LONG), whole_share(STEEP), whole_share(EARLY)], [(1, 249), (1, 1), (128, 159)])


class TestFirstTicks(unittest.TestCase):
    def test_tick_by_tick_against_a_slow_list(self):
        for tongue in some_tongues():
            pairs = slow_steps(tongue, reach(tongue))
            self.assertGreater(len(pairs), 30)
            self.assertEqual(first_pairs(tongue, min(2000, len(pairs))), pairs[:2000], str(tongue))
            for tick, (program, step) in list(enumerate(pairs, start=1))[:: max(1, len(pairs) // 150)]:
                self.assertEqual(tick_in(tongue, program, step), tick)
                self.assertEqual(pair_in(tongue, tick), (program, step))

    def test_ticks_at_which_made_by_grows(self):
        for tongue in (PLAIN, SHORT, SPARSE, QUICK):
            pairs = slow_steps(tongue, reach(tongue))[:400]
            for program in ((), ("say",), ("skip",), ("up", "say"), ("say", "say"), ("times", "skip", "down")):
                made = 0
                self.assertEqual(made_by(tongue, program, 0), 0)
                for tick, (other, step) in enumerate(pairs, start=1):
                    made += other == program
                    self.assertEqual(made_by(tongue, program, tick), made)
                    self.assertEqual(made_by(tongue, list(program), tick), made)

    def test_each_step_comes_by_its_due(self):
        for tongue in some_tongues():
            for tick, (program, step) in enumerate(first_pairs(tongue, 300), start=1):
                self.assertLessEqual(tick, step * factor_of(tongue, program))


class TestOrder(unittest.TestCase):
    def test_is_a_generator(self):
        self.assertTrue(inspect.isgeneratorfunction(order_in))
        pairs = order_in(many=2000, tongue=PLAIN)
        self.assertEqual(list(islice(pairs, 3)), [((), 1), ((), 2), ((), 3)])
        self.assertEqual(next(pairs), ((), 4))

    def test_many_at_the_bounds(self):
        for tongue in ALL:
            self.assertEqual(first_pairs(tongue, 0), [])
            self.assertEqual(first_pairs(tongue, 1), [((), 1)])
            pairs = first_pairs(tongue, 2000)
            self.assertEqual(len(pairs), 2000)
            self.assertEqual(pairs[-1], pair_in(tongue, 2000))
            for many in (7, 777, 1999):
                self.assertEqual(first_pairs(tongue, many), pairs[:many])

    def test_wrong_many(self):
        for wrong in NO_INTEGERS + (-1, 2001, FAR):
            self.assertEqual(error_of(first_pairs, PLAIN, wrong), ("BadNumber", "many"))
            self.assertEqual(error_of(lambda: next(order_in(PLAIN, wrong))), ("BadNumber", "many"))

    def test_wrong_tongues(self):
        for wrong in NO_TONGUES:
            self.assertEqual(error_of(first_pairs, wrong, 5), ("BadTongue", "tongue"))
            self.assertEqual(error_of(first_pairs, wrong, 2001), ("BadTongue", "tongue"))
            self.assertEqual(error_of(first_pairs, wrong, 0), ("BadTongue", "tongue"))


class TestFarTicks(unittest.TestCase):
    def test_the_pair_at_the_tick_of_a_step_is_that_step(self):
        luck = Random(41)
        for tongue in some_tongues():
            for number in (0, 1, 8, 1000, 10 ** 9, 10 ** 15):
                program = program_at(tongue, number)
                for step in (1, 2, 64, luck.randrange(1, 10 ** 6), luck.randrange(1, 10 ** 12)):
                    tick = tick_in(tongue, program, step)
                    if tick <= FAR:
                        self.assertEqual(pair_in(tongue, tick), (program, step))
                        self.assertEqual(made_by(tongue, program, tick), step)
                        self.assertEqual(made_by(tongue, program, tick - 1), step - 1)

    def test_the_tick_of_the_pair_is_that_tick(self):
        luck = Random(42)
        for tongue in some_tongues():
            for tick in (1, 2, 4097, luck.randrange(1, 10 ** 12), luck.randrange(1, FAR), FAR - 1, FAR):
                program, step = pair_in(tongue, tick)
                self.assertIs(type(program), tuple)
                self.assertEqual(tick_in(tongue, program, step), tick)
                self.assertEqual(made_by(tongue, program, tick), step)
                self.assertEqual(made_by(tongue, program, tick - 1), step - 1)

    def test_far_ticks_by_counts_of_words(self):
        # In LONG there are 7 ** k programs of 8 k + 8 signs: so the sum is made without the program.
        for words, step in ((0, 1), (0, FAR), (1, FAR), (2, 3 * 2 ** 90), (13, 10 ** 29), (36, 2 ** 99)):
            due = step << 8 * words + 8
            ahead = sum(7 ** many * ((due - 1) >> 8 * many + 8) for many in range(200))
            alike = sum(7 ** many for many in range(words) if due % 2 ** (8 * many + 8) == 0)
            self.assertEqual(tick_in(LONG, ["say"] * words, step), ahead + alike + 1)
            self.assertEqual(tick_in(LONG, ["skip"] * words, step), ahead + alike + 7 ** words)

    def test_due_just_at_the_last_one_and_behind(self):
        for program, step in ((["say"] * 132, 1), (["say"] * 131, 8), (["say"] * 120, 2 ** 36), (["say"] * 100, 2 ** 96)):
            self.assertEqual(step * factor_of(PLAIN, program), LAST)
            tick = tick_in(PLAIN, program, step)
            self.assertLessEqual(tick, LAST)
            if program[131:] != ["say"]:
                self.assertLess(tick_in(PLAIN, program, step - 1), tick)
            self.assertEqual(error_of(tick_in, PLAIN, program, step + 1), ("TooMany", "due", LAST))
        longer = of_lengths([7, 8, 8, 8, 8, 8, 8, 6])
        self.assertEqual(factor_of(longer, ["say"] * 56), 2 ** 398)
        self.assertLess(tick_in(longer, ["say"] * 56, 1), tick_in(longer, ["say"] * 56, 2))
        self.assertEqual(error_of(tick_in, longer, ["say"] * 56, 3), ("TooMany", "due", LAST))
        self.assertEqual(factor_of(PLAIN, ["say"] * 133), 8 * LAST)
        self.assertEqual(error_of(tick_in, PLAIN, ["say"] * 133, 1), ("TooMany", "due", LAST))
        for program in (["say"] * 200, ["skip"] * 187):
            self.assertEqual(error_of(tick_in, LONG, program, 1), ("TooMany", "due", LAST))
            self.assertEqual(error_of(tick_in, LONG, program, FAR), ("TooMany", "due", LAST))

    def test_programs_of_many_words(self):
        one = of_lengths([1, 8, 8, 8, 8, 8, 8, 8])
        for many in (187, 200):
            program = ("say",) * many
            tick = tick_in(one, program, 1)
            self.assertLessEqual(tick, 2 ** (many + 8))
            self.assertLess(tick, tick_in(one, program, 2))
            self.assertEqual(made_by(one, program, FAR), 0)
            self.assertEqual(made_by(LONG, program, FAR), 0)
        program = ("say",) * 80
        tick = tick_in(one, program, 3)
        self.assertEqual(pair_in(one, tick), (program, 3))
        made = made_by(one, program, FAR)
        self.assertTrue(tick_in(one, program, made) <= FAR < tick_in(one, program, made + 1))


class TestArguments(unittest.TestCase):
    def test_wrong_tongues(self):
        for wrong in NO_TONGUES:
            self.assertEqual(error_of(whole_share, wrong), ("BadTongue", "tongue"))
            self.assertEqual(error_of(pair_in, wrong, None), ("BadTongue", "tongue"))
            for call in (tick_in, made_by):
                self.assertEqual(error_of(call, wrong, ["end"], None), ("BadTongue", "tongue"))
                self.assertEqual(error_of(call, wrong, [], 1), ("BadTongue", "tongue"))

    def test_wrong_programs(self):
        for wrong in NO_PROGRAMS:
            for call in (tick_in, made_by):
                self.assertEqual(error_of(call, PLAIN, wrong, 1), ("BadProgram", "program"))
                self.assertEqual(error_of(call, PLAIN, wrong, None), ("BadProgram", "program"))

    def test_wrong_steps_and_ticks(self):
        for wrong in NO_INTEGERS + (-1, FAR + 1, -FAR):
            self.assertEqual(error_of(tick_in, PLAIN, [], wrong), ("BadNumber", "step"))
            self.assertEqual(error_of(tick_in, PLAIN, ["say"] * 200, wrong), ("BadNumber", "step"))
            self.assertEqual(error_of(pair_in, PLAIN, wrong), ("BadNumber", "tick"))
            self.assertEqual(error_of(made_by, PLAIN, [], wrong), ("BadNumber", "tick"))
        self.assertEqual(error_of(tick_in, PLAIN, [], 0), ("BadNumber", "step"))
        self.assertEqual(error_of(pair_in, PLAIN, 0), ("BadNumber", "tick"))
        self.assertEqual([made_by(PLAIN, WORDS[:7], tick) for tick in (0, 1)], [0, 0])

    def test_by_name(self):
        self.assertEqual(tick_in(step=4, program=["say"], tongue=PLAIN), 54)
        self.assertEqual(pair_in(tick=54, tongue=PLAIN), (("say",), 4))
        self.assertEqual(made_by(tick=54, tongue=PLAIN, program=("say",)), 4)

    def test_what_is_passed_stays(self):
        program = ["say", "up"]
        tick_in(PLAIN, program, 5)
        made_by(PLAIN, program, 500)
        self.assertEqual(program, ["say", "up"])

    def test_short_time(self):
        for tongue in some_tongues():
            for call, given in ((pair_in, (FAR,)), (made_by, (["say"], FAR)), (tick_in, ([], FAR)), (first_pairs, (2000,)),
                                (tick_in, (["say"] * 48, 1))):
                self.assertLess(seconds_of(call, tongue, *given), 2)


if __name__ == "__main__":
    unittest.main()
