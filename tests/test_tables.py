"""Tables: the values that programs of a tongue say, each with its first step in the order of dues."""

import unittest
from random import Random

from duetickers.programs import factor_of
from duetickers.runs import said_by
from duetickers.tables import said_table
from duetickers.wholes import tick_in
from tests.slow_machine import slow_said
from tests.tongue_list import ALL, EARLY, LONG, PLAIN, QUICK, SHORT, SPARSE, STEEP, of_lengths, texts_within
from tests.told import NO_INTEGERS, NO_LISTS, error_of, seconds_of

BOUND = 10 ** 18
DUES = (1, 2, 7, 8, 63, 64, 65, 255, 256, 1023, 1024, 1100, 4096)
# Words of two signs each for say, times and swap, and an end of two: programs that fall soon.
STEEP_FALL = of_lengths([3, 8, 8, 3, 3, 2, 8, 2])


def slow_table(tongue, given, due):
    """The table, by running all programs and sorting all that they say by dues, lengths and texts."""
    said = []
    for text, program in texts_within(tongue, due.bit_length()).items():
        factor = 2 ** len(text)
        said += [(factor * step, len(text), text, step, value, program)
                 for step, value in slow_said(program, given, due // factor)]
    rows, values = [], set()
    for when, length, text, step, value, program in sorted(said):
        if value not in values:
            values.add(value)
            rows.append((value, program, step, when))
    return tuple(rows)


class TestExamples(unittest.TestCase):
    def test_table(self):
        wanted = ((0, ("say",), 1, 64), (1, ("up", "say"), 2, 1024), (-1, ("down", "say"), 2, 1024),
                  (3, ("swap", "say"), 2, 1024))
        self.assertEqual(said_table(PLAIN, 3, 1100), wanted)
        self.assertEqual([said_table(PLAIN, 3, 63), said_table(tongue=PLAIN, given=3, due=64)],
                         [(), ((0, ("say",), 1, 64),)])


class TestTables(unittest.TestCase):
    def test_against_a_slow_running_of_all_programs(self):
        rows = 0
        for tongue in ALL + (STEEP_FALL,):
            for given in (0, 3, -2, BOUND, -BOUND):
                for due in DUES:
                    found = said_table(tongue, given, due)
                    self.assertEqual(found, slow_table(tongue, given, due), (str(tongue), given, due))
                    rows += len(found)
        self.assertGreater(rows, 500)

    def test_the_greatest_dues(self):
        for tongue in (PLAIN, SHORT, QUICK, EARLY, STEEP, STEEP_FALL):
            for given in (5, BOUND):
                for due in (19999, 20000):
                    self.assertEqual(said_table(tongue, given, due), slow_table(tongue, given, due))
        self.assertEqual(said_table(LONG, 3, 20000), ())

    def test_tongues_whose_shares_sum_to_less_than_1(self):
        luck = Random(120)
        for _ in range(6):
            tongue = of_lengths([luck.randrange(3, 7) for _ in range(8)])
            self.assertEqual(said_table(tongue, 4, 9000), slow_table(tongue, 4, 9000))
        self.assertEqual(said_table(SPARSE, 3, 255), ())
        self.assertEqual(said_table(SPARSE, 3, 256), ((0, ("say",), 1, 256),))

    def test_tables_of_lesser_dues_are_beginnings(self):
        for tongue in (PLAIN, SHORT, QUICK, EARLY, STEEP_FALL):
            whole = said_table(tongue, 7, 20000)
            self.assertEqual([row[3] for row in whole], sorted(row[3] for row in whole))
            for due in DUES + (12345,):
                self.assertEqual(said_table(tongue, 7, due), tuple(row for row in whole if row[3] <= due))

    def test_what_rows_tell(self):
        for tongue in (PLAIN, SHORT, STEEP, EARLY):
            table = said_table(tongue, 9, 20000)
            self.assertEqual(len({row[0] for row in table}), len(table))
            for value, program, step, due in table:
                self.assertEqual(step * factor_of(tongue, program), due)
                self.assertEqual(said_by(program, 9, step)[-1], (step, value))
                self.assertLessEqual(tick_in(tongue, program, step), due)
            ticks = [tick_in(tongue, program, step) for value, program, step, due in table]
            self.assertEqual(ticks, sorted(ticks))

    def test_of_two_that_say_alike_the_first_in_the_order_stands(self):
        # Both swap say and add say say 3 with a step due at 1024.
        self.assertEqual([row for row in said_table(PLAIN, 3, 20000) if row[0] == 3], [(3, ("swap", "say"), 2, 1024)])
        # With 0 given say, swap say and others say 0; with 1 given swap say says 1 behind up say.
        self.assertEqual(said_table(PLAIN, 0, 1024), ((0, ("say",), 1, 64), (1, ("up", "say"), 2, 1024), (-1, ("down", "say"), 2, 1024)))
        self.assertEqual(said_table(PLAIN, 1, 1024)[1:], ((1, ("up", "say"), 2, 1024), (-1, ("down", "say"), 2, 1024)))

    def test_fallen_runs_say_nothing(self):
        # With 10 ** 18 given each run that adds or multiplies on falls; none says more than that.
        for given in (BOUND, -BOUND):
            table = said_table(STEEP_FALL, given, 20000)
            self.assertIn(given, [row[0] for row in table])
            self.assertTrue(all(-BOUND <= row[0] <= BOUND for row in table))
            self.assertEqual(table, slow_table(STEEP_FALL, given, 20000))
        self.assertEqual(slow_said(("add", "add", "say"), BOUND, 99), ())
        self.assertNotIn(2 * BOUND, [row[0] for row in said_table(PLAIN, BOUND, 20000)])
        self.assertIn(2 * BOUND // 10, [row[0] for row in said_table(STEEP_FALL, BOUND // 10, 20000)])


class TestArguments(unittest.TestCase):
    def test_bounds(self):
        for given in (BOUND, -BOUND, 0):
            for due in (1, 20000):
                self.assertIsNone(error_of(said_table, PLAIN, given, due))
        for wrong in NO_INTEGERS + (BOUND + 1, -BOUND - 1, 10 ** 300):
            self.assertEqual(error_of(said_table, PLAIN, wrong, 64), ("BadNumber", "given"))
        for wrong in NO_INTEGERS + (0, -1, 20001, 10 ** 300):
            self.assertEqual(error_of(said_table, PLAIN, 3, wrong), ("BadNumber", "due"))
        for wrong in NO_LISTS + (PLAIN.names, str(PLAIN)):
            self.assertEqual(error_of(said_table, wrong, 3, 64), ("BadTongue", "tongue"))

    def test_the_first_wrong_one_is_told(self):
        given = [PLAIN, 3, 64]
        for place, wanted in ((2, ("BadNumber", "due")), (1, ("BadNumber", "given")), (0, ("BadTongue", "tongue"))):
            given[place] = None
            self.assertEqual(error_of(said_table, *given), wanted)

    def test_rows_are_tuples(self):
        table = said_table(PLAIN, 3, 1100)
        self.assertIs(type(table), tuple)
        for row in table:
            self.assertEqual([type(part) for part in row], [int, tuple, int, int])
            self.assertIs(type(row), tuple)
        self.assertEqual(said_table(PLAIN, 3, 1100), table)

    def test_short_time(self):
        tongues = ALL + (STEEP_FALL, of_lengths([2, 2, 3, 8, 8, 8, 8, 2]), of_lengths([1, 8, 8, 8, 8, 8, 8, 8]),
                         of_lengths([8, 8, 8, 8, 8, 8, 8, 1]), of_lengths([4, 4, 4, 4, 4, 4, 4, 1]))
        for tongue in tongues:
            for given in (3, BOUND):
                self.assertLess(seconds_of(said_table, tongue, given, 20000), 3)


if __name__ == "__main__":
    unittest.main()
