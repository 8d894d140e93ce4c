"""Counts: how many programs have a length, which has which number, and lists of them."""

import inspect
import unittest
from itertools import islice, product

from duetickers.counts import first_programs, how_many, number_of, program_at, programs_of
from duetickers.programs import length_of, text_of
from tests.told import NO_INTEGERS, NO_LISTS, error_of, seconds_of
from tests.tongue_list import (ALL, EARLY, LONG, PLAIN, SHORT, SPARSE, STEEP, TURNED, WORDS, of_lengths,
                               slow_programs)

NO_TONGUES = NO_LISTS + (PLAIN.names, list(PLAIN.names), str(PLAIN))
MOST = 10 ** 30
# In these just 2,000 and 2,001 programs have the length that stands ahead.
TWO_THOUSAND = ((19, of_lengths([1, 2, 3, 4, 5, 6, 7, 7])), (40, of_lengths([6, 6, 6, 6, 6, 7, 7, 7])))
ONE_MORE = ((17, of_lengths([1, 3, 3, 3, 6, 8, 8, 4])), (31, of_lengths([2, 5, 5, 5, 8, 8, 8, 8])))


def first_ones(tongue, many):
    """The programs that the generator gives, as a list."""
    return list(first_programs(tongue, many))


def slow_counts(tongue, most):
    """How many programs have the lengths 0 to most, going ahead from the empty program, word by word."""
    begun = {0: 1}
    counts = [0] * (most + 1)
    while begun:
        longer = {}
        for length, many in begun.items():
            for word, name in zip(WORDS, tongue.names):
                behind = length + len(name)
                if behind > most:
                    continue
                if word == "end":
                    counts[behind] += many
                else:
                    longer[behind] = longer.get(behind, 0) + many
        begun = longer
    return counts


class TestExamples(unittest.TestCase):
    def test_counts_and_numbers(self):
        self.assertEqual([how_many(SHORT, length) for length in range(9)], [0, 0, 0, 0, 1, 0, 2, 2, 7])
        told = [program_at(SHORT, 0), program_at(SHORT, 4), program_at(SHORT, 7), number_of(SHORT, ["up", "say"]),
                number_of(PLAIN, ("say", "say", "say"))]
        self.assertEqual(told, [(), ("swap",), ("up", "say"), 7, 57])
        told = [length_of(PLAIN, program_at(PLAIN, MOST)), length_of(SHORT, program_at(SHORT, MOST)),
                number_of(SHORT, program_at(SHORT, MOST)) == MOST]
        self.assertEqual(told, [111, 108, True])

    def test_lists(self):
        self.assertEqual(programs_of(SHORT, 8), (("say", "say"), ("say", "up"), ("up", "say"), ("up", "up"), ("add",),
                                                 ("times",), ("skip",)))
        told = [list(first_programs(TURNED, 4)), how_many(TURNED, 9), how_many(TURNED, 10), programs_of(TURNED, 5)]
        self.assertEqual(told, [[(), ("skip",), ("times",), ("add",)], 49, 0, ()])
        self.assertEqual(error_of(programs_of, SHORT, 40), ("TooMany", "programs", 2000))
        self.assertEqual(how_many(SHORT, 40), 10748378071)
        self.assertEqual([how_many(PLAIN, length) for length in (3, 6, 9)], [1, 7, 49])


class TestHowMany(unittest.TestCase):
    def test_by_all_texts(self):
        for tongue in ALL:
            for length in range(13):
                self.assertEqual(how_many(tongue, length), len(slow_programs(tongue, length)))

    def test_going_ahead_word_by_word(self):
        for tongue in ALL:
            counts = slow_counts(tongue, 400)
            for length in (0, 1, 7, 8, 39, 40, 41, 200, 399, 400):
                self.assertEqual(how_many(tongue, length), counts[length])
        self.assertEqual(how_many(LONG, 400), 7 ** 49)
        self.assertEqual(how_many(tongue=LONG, length=399), 0)

    def test_programs_of_more_than_two_hundred_words_count(self):
        self.assertEqual(how_many(of_lengths([1, 8, 8, 8, 8, 8, 8, 8]), 8), 1)
        self.assertEqual(how_many(STEEP, 400), slow_counts(STEEP, 400)[400])
        self.assertGreater(how_many(STEEP, 400), 10 ** 117)

    def test_wrong_lengths(self):
        for wrong in NO_INTEGERS + (-1, 401, 10 ** 30):
            self.assertEqual(error_of(how_many, PLAIN, wrong), ("BadNumber", "length"))
            self.assertEqual(error_of(how_many, None, wrong), ("BadTongue", "tongue"))


class TestNumbers(unittest.TestCase):
    def test_in_the_order_of_all_texts(self):
        for tongue in ALL:
            number = 0
            for length in range(13):
                for program in slow_programs(tongue, length):
                    self.assertEqual(program_at(tongue, number), program)
                    self.assertEqual(number_of(tongue, program), number)
                    self.assertEqual(number_of(program=list(program), tongue=tongue), number)
                    number += 1

    def test_there_and_back(self):
        for tongue in ALL + (of_lengths([8] * 7 + [1]), of_lengths([1] + [8] * 7)):
            for number in (0, 1, 2, 99, 12345, 2 ** 64, 10 ** 29 + 7, MOST - 1, MOST):
                program = program_at(tongue, number)
                self.assertIs(type(program), tuple)
                self.assertEqual(number_of(tongue, program), number)
                self.assertLessEqual(len(program), 187)
                self.assertLessEqual(length_of(tongue, program), 296)
        self.assertEqual(length_of(LONG, program_at(LONG, MOST)), 296)

    def test_neighbours_stand_in_their_order(self):
        for tongue in ALL:
            for start in (0, 500, 10 ** 12, MOST - 20):
                texts = [text_of(tongue, program_at(tongue, start + more)) for more in range(21)]
                self.assertEqual(sorted(texts, key=lambda text: (len(text), text)), texts)
                self.assertEqual(len(set(texts)), 21)

    def test_wrong_numbers(self):
        for wrong in NO_INTEGERS + (-1, MOST + 1, 10 ** 40):
            self.assertEqual(error_of(program_at, PLAIN, wrong), ("BadNumber", "number"))
            self.assertEqual(error_of(program_at, 5, wrong), ("BadTongue", "tongue"))
        self.assertEqual(program_at(number=0, tongue=PLAIN), ())

    def test_programs_of_four_hundred_signs(self):
        program = ["skip"] * 49
        self.assertEqual(length_of(LONG, program), 400)
        self.assertEqual(number_of(LONG, program), sum(7 ** k for k in range(50)) - 1)
        self.assertEqual(error_of(number_of, LONG, program + ["say"]), ("Misfit", "program"))
        self.assertEqual(error_of(number_of, LONG, ["say"] * 200), ("Misfit", "program"))
        for many, right in ((131, True), (132, True), (133, False), (200, False)):
            self.assertEqual(length_of(PLAIN, ["say"] * many), 3 * many + 3)
            self.assertEqual(error_of(number_of, PLAIN, ["up"] * many), None if right else ("Misfit", "program"))
        short = ["up"] * 198
        self.assertEqual(length_of(SHORT, short), 400)
        self.assertIsNone(error_of(number_of, SHORT, short))
        self.assertEqual(error_of(number_of, SHORT, short + ["say"]), ("Misfit", "program"))
        early = ["swap"] * 133
        self.assertEqual(length_of(EARLY, early), 400)
        self.assertEqual(number_of(EARLY, early), sum(slow_counts(EARLY, 400)) - 1)
        self.assertEqual(error_of(number_of, EARLY, early + ["swap"]), ("Misfit", "program"))

    def test_wrong_programs(self):
        for wrong in NO_LISTS + (["end"], [None], ["say"] * 201, ("say", "Up")):
            self.assertEqual(error_of(number_of, PLAIN, wrong), ("BadProgram", "program"))
            self.assertEqual(error_of(number_of, "x", wrong), ("BadTongue", "tongue"))


class TestLists(unittest.TestCase):
    def test_by_all_texts(self):
        for tongue in ALL:
            for length in range(13):
                wanted = slow_programs(tongue, length)
                self.assertLessEqual(len(wanted), 2000)
                self.assertEqual(programs_of(tongue, length), wanted)
                self.assertEqual(programs_of(length=length, tongue=tongue), wanted)

    def test_agrees_with_counts_and_numbers(self):
        for tongue in ALL:
            for length in range(41):
                many = how_many(tongue, length)
                if many > 2000:
                    self.assertEqual(error_of(programs_of, tongue, length), ("TooMany", "programs", 2000))
                    continue
                listed = programs_of(tongue, length)
                self.assertEqual((type(listed), len(listed)), (tuple, many))
                start = sum(how_many(tongue, lesser) for lesser in range(length))
                for more, program in enumerate(listed[:60]):
                    self.assertEqual(program_at(tongue, start + more), program)
                    self.assertEqual(number_of(tongue, program), start + more)
                texts = [text_of(tongue, program) for program in listed]
                self.assertEqual(texts, sorted(set(texts)))

    def test_two_thousand_and_one_more(self):
        for length, tongue in TWO_THOUSAND:
            self.assertEqual(how_many(tongue, length), 2000)
            listed = programs_of(tongue, length)
            self.assertEqual(len(set(listed)), 2000)
            self.assertEqual({length_of(tongue, program) for program in listed}, {length})
        for length, tongue in ONE_MORE:
            self.assertEqual(how_many(tongue, length), 2001)
            self.assertEqual(error_of(programs_of, tongue, length), ("TooMany", "programs", 2000))

    def test_wrong_lengths(self):
        for wrong in NO_INTEGERS + (-1, 41, 400, 10 ** 30):
            self.assertEqual(error_of(programs_of, PLAIN, wrong), ("BadNumber", "length"))
            self.assertEqual(error_of(programs_of, "", wrong), ("BadTongue", "tongue"))
        self.assertEqual(programs_of(LONG, 0), ())
        self.assertEqual(programs_of(PLAIN, 40), ())
        self.assertEqual(error_of(programs_of, LONG, 40), ("TooMany", "programs", 2000))

    def test_first_ones(self):
        for tongue in ALL:
            wanted = [program_at(tongue, number) for number in range(2000)]
            self.assertEqual(list(first_programs(tongue, 2000)), wanted)
            for many in (0, 1, 2, 8, 1999):
                self.assertEqual(list(first_programs(many=many, tongue=tongue)), wanted[:many])
            self.assertEqual({type(program) for program in wanted}, {tuple})

    def test_first_ones_come_one_by_one(self):
        told = first_programs(PLAIN, 2000)
        self.assertTrue(inspect.isgenerator(told))
        self.assertEqual(list(islice(told, 2)), [(), ("say",)])
        self.assertEqual(next(told), ("up",))
        self.assertEqual(list(first_programs(SPARSE, 2)), [(), ("say",)])

    def test_wrong_first_ones(self):
        for wrong in NO_INTEGERS + (-1, 2001, 10 ** 30):
            self.assertEqual(error_of(first_ones, PLAIN, wrong), ("BadNumber", "many"))
            self.assertEqual(error_of(first_ones, None, wrong), ("BadTongue", "tongue"))
        for many in (0, 1, 2000):
            self.assertEqual(error_of(first_ones, PLAIN.names, many), ("BadTongue", "tongue"))


class TestTonguesAndTimes(unittest.TestCase):
    def test_no_tongues(self):
        for wrong in NO_TONGUES:
            for call, last in ((how_many, 5), (program_at, 5), (number_of, []), (programs_of, 5), (first_ones, 5)):
                self.assertEqual(error_of(call, wrong, last), ("BadTongue", "tongue"))

    def test_lengths_without_programs(self):
        for tongue, step in ((PLAIN, 3), (SPARSE, 4), (LONG, 8)):
            for length in range(41):
                many = 7 ** (length // step - 1) if length and length % step == 0 else 0
                self.assertEqual(how_many(tongue, length), many)
                if not many:
                    self.assertEqual(programs_of(tongue, length), ())

    def test_short_times(self):
        for tongue in ALL + (of_lengths([8] * 7 + [1]), of_lengths([1] + [8] * 7)):
            self.assertLess(seconds_of(how_many, tongue, 400), 2)
            self.assertLess(seconds_of(program_at, tongue, MOST), 2)
            self.assertLess(seconds_of(number_of, tongue, program_at(tongue, MOST)), 2)
            self.assertLess(seconds_of(first_ones, tongue, 2000), 2)
        for length, tongue in TWO_THOUSAND:
            self.assertLess(seconds_of(programs_of, tongue, length), 2)
        self.assertLess(seconds_of(number_of, STEEP, ["say"] * 200), 2)

    def test_values_stay(self):
        names = PLAIN.names
        for program in product(("say", "skip"), repeat=3):
            given = list(program)
            number_of(PLAIN, given)
            self.assertEqual(given, list(program))
        first_ones(PLAIN, 9)
        self.assertEqual(PLAIN.names, names)


if __name__ == "__main__":
    unittest.main()
