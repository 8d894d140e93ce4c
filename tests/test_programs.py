"""Programs: their texts, lengths, factors, and back from a text."""

import unittest
from itertools import product

from duetickers.programs import factor_of, length_of, program_in, text_of
from tests.told import NO_LISTS, NO_STRINGS, error_of, seconds_of
from tests.tongue_list import ALL, EARLY, LONG, PLAIN, SHORT, STEEP, WORDS, slow_program

SEVEN = WORDS[:7]
CALLS = (text_of, length_of, factor_of)
NO_TONGUES = NO_LISTS + (PLAIN.names, list(PLAIN.names), str(PLAIN), "plain")
WRONG_WORDS = NO_STRINGS + ("end", "", "Say", "say ", "right", "000", "sayup")


class TestTexts(unittest.TestCase):
    def test_examples(self):
        told = [text_of(SHORT, ["up", "say"]), length_of(SHORT, ("up", "say")), factor_of(SHORT, ["up", "say"]),
                text_of(PLAIN, ()), factor_of(PLAIN, [])]
        self.assertEqual(told, ["01001111", 8, 256, "111", 8])
        told = [program_in(SHORT, text) for text in ("01001111", "1111", "0100", "11110", "")]
        self.assertEqual(told + [program_in(PLAIN, "1111")], [("up", "say"), (), None, None, None, None])
        self.assertEqual(error_of(text_of, SHORT, ["up", "end"]), ("BadProgram", "program"))

    def test_names_one_behind_another(self):
        for tongue in ALL:
            table = dict(zip(WORDS, tongue.names))
            for many in range(4):
                for program in product(SEVEN, repeat=many):
                    text = "".join(table[word] for word in program) + table["end"]
                    self.assertEqual(text_of(tongue, program), text)
                    self.assertEqual(length_of(tongue, program), len(text))
                    self.assertEqual(factor_of(tongue, program), 2 ** len(text))
                    self.assertEqual(program_in(tongue, text), program)

    def test_lists_and_tuples_by_place_and_by_name(self):
        for call in CALLS:
            self.assertEqual(call(SHORT, ["up", "say"]), call(program=("up", "say"), tongue=SHORT))
        self.assertEqual(program_in(text="1111", tongue=SHORT), ())
        self.assertIs(type(program_in(SHORT, "01001111")), tuple)

    def test_lengths_of_programs(self):
        for many in (0, 1, 199, 200):
            program = ["say"] * many
            self.assertEqual(text_of(LONG, program), LONG.names[0] * many + LONG.names[7])
            self.assertEqual(length_of(LONG, program), 8 * many + 8)
            self.assertEqual(factor_of(LONG, program), 2 ** (8 * many + 8))
            self.assertEqual(program, ["say"] * many)
        for call in CALLS:
            self.assertEqual(error_of(call, LONG, ["say"] * 201), ("BadProgram", "program"))

    def test_wrong_words(self):
        for wrong in WRONG_WORDS:
            for program in ([wrong], ("say", wrong), [wrong, "say"], ["say"] * 199 + [wrong]):
                for call in CALLS:
                    self.assertEqual(error_of(call, PLAIN, program), ("BadProgram", "program"))

    def test_no_lists(self):
        for wrong in NO_LISTS + ("say", "up say", {"say": 1}):
            for call in CALLS:
                self.assertEqual(error_of(call, PLAIN, wrong), ("BadProgram", "program"))

    def test_no_tongues_come_first(self):
        for wrong in NO_TONGUES:
            for call in CALLS:
                self.assertEqual(error_of(call, wrong, ["say"]), ("BadTongue", "tongue"))
                self.assertEqual(error_of(call, wrong, ["end"]), ("BadTongue", "tongue"))
            self.assertEqual(error_of(program_in, wrong, "0"), ("BadTongue", "tongue"))
            self.assertEqual(error_of(program_in, wrong, "2"), ("BadTongue", "tongue"))


class TestProgramIn(unittest.TestCase):
    def test_against_reading_name_by_name(self):
        for tongue in ALL:
            for length in range(10):
                for signs in product("01", repeat=length):
                    text = "".join(signs)
                    self.assertEqual(program_in(tongue, text), slow_program(tongue, text), text)

    def test_cut_lengthened_and_put_together(self):
        text = text_of(SHORT, ["swap", "skip", "say", "times"])
        for cut in range(len(text)):
            self.assertIsNone(program_in(SHORT, text[:cut]))
        for more in ("0", "1", "00", "1111", text):
            self.assertIsNone(program_in(SHORT, text + more))
        self.assertEqual(program_in(SHORT, text[3:]), ("skip", "say", "times"))
        self.assertIsNone(program_in(SHORT, "1111" + text))

    def test_more_than_two_hundred_words(self):
        text = text_of(STEEP, ["say"] * 200)
        self.assertEqual(program_in(STEEP, text), ("say",) * 200)
        self.assertIsNone(program_in(STEEP, "0" + text))
        self.assertIsNone(program_in(STEEP, "10" + text))
        self.assertEqual(program_in(STEEP, "10" + text[1:]), ("up",) + ("say",) * 199)
        self.assertIsNone(program_in(STEEP, "0" * 1900 + "1111111"))

    def test_texts_of_two_thousand_signs(self):
        self.assertIsNone(program_in(STEEP, "0" * 2000))
        self.assertIsNone(program_in(PLAIN, "0" * 1997 + "111"))
        self.assertIsNone(program_in(EARLY, "0" * 2000))
        program = ("say",) * 200
        text = text_of(LONG, program)
        self.assertEqual((len(text), program_in(LONG, text)), (1608, program))
        for wrong in ("0" * 2001, "0" * 1998 + "111"):
            self.assertEqual(error_of(program_in, PLAIN, wrong), ("BadName", "text"))

    def test_wrong_texts(self):
        for wrong in NO_STRINGS + ("2", "1111 ", " 1111", "11 11", "1111\n", "/", "\uff11111", "say", ["1111"]):
            self.assertEqual(error_of(program_in, SHORT, wrong), ("BadName", "text"))

    def test_short_times(self):
        for tongue in ALL:
            program = ["times"] * 200
            for call in CALLS:
                self.assertLess(seconds_of(call, tongue, program), 2)
            self.assertLess(seconds_of(program_in, tongue, "01" * 1000), 2)
            self.assertLess(seconds_of(program_in, tongue, "0" * 2000), 2)


if __name__ == "__main__":
    unittest.main()
