"""Tongues: their names, words, equality, and their text there and back."""

import unittest
from itertools import permutations

from duetickers.tongues import Tongue
from tests.told import NO_LISTS, NO_STRINGS, Odd, error_of
from tests.tongue_list import ALL, PLAIN, SHORT, WORDS

EIGHT = ["000", "001", "010", "011", "100", "101", "110", "111"]
BAD = ("", "2", "0" * 9, "00 ", " 00", "0o", "\u0660", "000\n")


class TestTongue(unittest.TestCase):
    def test_examples(self):
        told = [str(SHORT), Tongue.read(str(SHORT)) == SHORT, PLAIN == SHORT, SHORT.names[2], SHORT.name_of("skip"),
                Tongue.WORDS]
        self.assertEqual(told, ["00 01 100 101 1100 1101 1110 1111", True, False, "100", "1110", WORDS])
        wrong = ["00", "01", "10", "11", "000", "001", "010", "011"]
        self.assertEqual(error_of(Tongue, wrong), ("BadTongue", "names"))
        self.assertEqual(error_of(Tongue.read, "00 01 1 101 1100 1101 1110 1111"), ("BadText", 0, 3))
        self.assertEqual(error_of(PLAIN.name_of, "right"), ("BadName", "word"))

    def test_names_are_a_tuple_of_their_own(self):
        names = list(EIGHT)
        tongue = Tongue(names=names)
        names[0] = "1"
        self.assertEqual(tongue.names, tuple(EIGHT))
        self.assertIs(type(tongue.names), tuple)
        self.assertEqual(Tongue(tuple(EIGHT)).names, tuple(EIGHT))

    def test_names_of_one_and_of_eight_signs(self):
        steep = ["1" * k + "0" for k in range(7)] + ["1" * 8]
        self.assertEqual(Tongue(steep).names, tuple(steep))
        self.assertEqual(error_of(Tongue, steep[:7] + ["1" * 9]), ("BadTongue", "names"))

    def test_wrong_names_at_each_place(self):
        for place in range(8):
            for wrong in BAD + NO_STRINGS + (EIGHT[place - 1], EIGHT[place - 1] + "0", EIGHT[place - 1][:2]):
                names = EIGHT[:place] + [wrong] + EIGHT[place + 1:]
                self.assertEqual(error_of(Tongue, names), ("BadTongue", "names"), names)
                self.assertEqual(error_of(Tongue, tuple(names)), ("BadTongue", "names"), names)

    def test_one_that_begins_another_at_any_places(self):
        base = ["0000", "0001", "0010", "0011", "0100", "0101"]
        for one, other in permutations(range(8), 2):
            names = list(base)
            for place, name in sorted(((one, "1"), (other, "10"))):
                names.insert(place, name)
            self.assertEqual(error_of(Tongue, names), ("BadTongue", "names"), names)
            names[names.index("1")] = "11"
            self.assertEqual(Tongue(names).names, tuple(names))

    def test_wrong_lists(self):
        for wrong in NO_LISTS + (EIGHT[:7], EIGHT + ["1"], [], (), " ".join(EIGHT), "01010101", dict.fromkeys(EIGHT)):
            self.assertEqual(error_of(Tongue, wrong), ("BadTongue", "names"))
        seven = ["00", "01", "100", "101", "1100", "1101", "1110"]
        self.assertEqual(error_of(Tongue, seven), ("BadTongue", "names"))
        self.assertEqual(error_of(Tongue, seven + ["11110", "11111"]), ("BadTongue", "names"))

    def test_words(self):
        self.assertEqual(PLAIN.WORDS, WORDS)
        for tongue in ALL:
            self.assertEqual(tuple(tongue.name_of(word) for word in WORDS), tongue.names)
        self.assertEqual(PLAIN.name_of(word="times"), "101")
        for wrong in NO_STRINGS + ("", "Say", "say ", " up", "sayup", "000", "en", "ends"):
            self.assertEqual(error_of(PLAIN.name_of, wrong), ("BadName", "word"))

    def test_equal(self):
        for place, one in enumerate(ALL):
            for other_place, other in enumerate(ALL):
                self.assertIs(one == Tongue(list(other.names)), place == other_place)
                self.assertIs(one != Tongue(other.names), place != other_place)
        for other in (None, PLAIN.names, list(PLAIN.names), str(PLAIN), 5, True, object()):
            self.assertIs(PLAIN == other, False)
            self.assertIs(PLAIN != other, True)
        self.assertIs(PLAIN.__eq__(Odd()), False)

    def test_methods_stand_in_the_class(self):
        for method in ("__init__", "__eq__", "__str__", "name_of", "read"):
            self.assertIn(method, vars(Tongue))


class TestText(unittest.TestCase):
    def test_there_and_back(self):
        for tongue in ALL:
            self.assertEqual(str(tongue), " ".join(tongue.names))
            self.assertEqual(Tongue.read(str(tongue)), tongue)
            self.assertEqual(Tongue.read(text=str(tongue)).names, tongue.names)

    def read_error(self, items):
        """The item that is told for the text of these items."""
        told = error_of(Tongue.read, " ".join(items))
        self.assertEqual(told[:2], ("BadText", 0))
        return told[2]

    def test_bent_at_each_item(self):
        for place in range(8):
            for wrong in ("", "2", "0" * 9, "-", "/", "0o", "000\n", "\t000", "\u0661", "1" * 300):
                items = EIGHT[:place] + [wrong] + EIGHT[place + 1:]
                self.assertEqual(self.read_error(items), place, items)
                self.assertEqual(self.read_error(items + ["", ""]), place)

    def test_two_wrong_items(self):
        for place in range(8):
            for later in range(place + 1, 8):
                items = list(EIGHT)
                items[place] = items[later] = "x"
                self.assertEqual(self.read_error(items), place)

    def test_one_that_begins_another(self):
        for place in range(8):
            for ahead in range(place):
                for wrong in (EIGHT[ahead], EIGHT[ahead] + "0", EIGHT[ahead] + "11011", EIGHT[ahead][:1]):
                    items = EIGHT[:place] + [wrong] + EIGHT[place + 1:]
                    self.assertEqual(self.read_error(items), place)

    def test_one_that_begins_a_later_one(self):
        # 11 begins 111 alone, which stands last: so 111 cannot stand behind it.
        for place in range(6):
            items = EIGHT[:place] + ["11"] + [name for name in EIGHT[place + 1:6]] + ["1010", "111"]
            self.assertEqual(self.read_error(items), 6 if place != 5 else 7, items)

    def test_missing_items(self):
        for many in range(1, 8):
            self.assertEqual(self.read_error(EIGHT[:many]), many)
        self.assertEqual(self.read_error(["0", "1"]), 2)
        self.assertEqual(self.read_error(["0", "1", "00"]), 2)

    def test_too_many_items(self):
        for more in (["1"], [""], ["x"], ["0000", "1111"]):
            self.assertEqual(self.read_error(EIGHT + more), 8)
        room = ["0000", "0001", "0010", "0011", "0100", "0101", "0110", "0111"]
        self.assertEqual(self.read_error(room + ["1"]), 8)

    def test_empty_items_and_double_blanks(self):
        for text, item in (("", 0), (" ", 0), ("  ", 0), (" " + " ".join(EIGHT), 0), (" ".join(EIGHT) + " ", 8),
                           ("  ".join(EIGHT), 1), ("000 ", 1), ("000 001 ", 2), ("000\n001", 0), ("000\t001", 0),
                           ("\n".join(EIGHT), 0), (" ".join(EIGHT) + "\n", 7)):
            self.assertEqual(error_of(Tongue.read, text), ("BadText", 0, item), text)

    def test_no_strings(self):
        for wrong in NO_STRINGS + (tuple(EIGHT), EIGHT, PLAIN, " ".join(EIGHT).encode()):
            self.assertEqual(error_of(Tongue.read, wrong), ("BadText", 0, 0))

    def test_long_text(self):
        self.assertEqual(error_of(Tongue.read, "0 " * 10000), ("BadText", 0, 1))
        self.assertEqual(error_of(Tongue.read, "0" * 20000), ("BadText", 0, 0))


if __name__ == "__main__":
    unittest.main()
