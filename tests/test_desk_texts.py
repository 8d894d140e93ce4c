"""Texts of desks: there and back, and which item of a bent one is told."""

import unittest
from random import Random

from duetickers.desks import Desk
from duetickers.finders import Found
from duetickers.puzzles import Puzzle
from tests.tongue_list import ALL, PLAIN, SHORT
from tests.told import NO_STRINGS, error_of

BOUND = 10 ** 18
NAMES = "000 001 010 011 100 101 110 111"
TEXT = NAMES + " / a n = / 0 54"
# The check of this one is never so: it may go on to tick 20,000.
OPEN = NAMES + " / a a < / 0 54"
CHECKS = ("a n =", "a a <", "a 1 =", "0 1 <", "a 2 rem 1 = n a < and", f"{BOUND} {-BOUND} <", "a a =" + " not" * 37)
BENT = ("", "x", "\n", "+1", "1.0", "0x1", "1_0", "--1", "-x", "\u0661", "\u00b2", "01x", "-0", "1\n", "\t1", "1e3",
        "9" * 141, "9" * 5000, "True", "None")


def facts(desk):
    """All that is told of a desk."""
    return (desk.tongue, desk.puzzle, desk.given, desk.tick, desk.found, desk.coming(), str(desk))


class TestThereAndBack(unittest.TestCase):
    def test_behind_drawn_stops(self):
        luck = Random(150)
        for tongue in ALL:
            for text in CHECKS:
                given = luck.choice((0, 1, -4, BOUND, -BOUND))
                desk = Desk(tongue, Puzzle(text), given)
                for _ in range(3):
                    desk.go(luck.choice((0, 1, 30, 300, 3000)))
                    wanted = " ".join(tongue.names) + f" / {text} / {given} {desk.tick}"
                    self.assertEqual(str(desk), wanted)
                    other = Desk.read(text=wanted)
                    self.assertIs(type(other), Desk)
                    self.assertIs(other == desk, True)
                    self.assertEqual(facts(other), facts(desk))
                    many = luck.choice((0, 1, 50))
                    self.assertEqual((other.go(many), facts(other)), (desk.go(many), facts(desk)))

    def test_at_the_answer_ahead_of_it_and_behind(self):
        self.assertEqual(Desk.read(TEXT).found, Found(0, ("say",), 4, 54))
        self.assertIsNone(Desk.read(NAMES + " / a n = / 0 53").found)
        for tick in (55, 56, 20000):
            self.assertEqual(error_of(Desk.read, NAMES + f" / a n = / 0 {tick}"), ("BadText", 0, 14))

    def test_ticks_at_the_bounds(self):
        for tick in (0, 1, 19999, 20000):
            self.assertEqual(Desk.read(NAMES + f" / a a < / 0 {tick}").tick, tick)
        for tick in (-1, 20001, 10 ** 139):
            self.assertEqual(error_of(Desk.read, NAMES + f" / a a < / 0 {tick}"), ("BadText", 0, 14))

    def test_given_numbers_at_the_bounds(self):
        for given in (BOUND, -BOUND, 0, -1):
            self.assertEqual(Desk.read(NAMES + f" / a a < / {given} 5").given, given)
        for given in (BOUND + 1, -BOUND - 1, 10 ** 139):
            self.assertEqual(error_of(Desk.read, NAMES + f" / a a < / {given} 5"), ("BadText", 0, 13))


class TestBentTexts(unittest.TestCase):
    def read_error(self, items):
        """The item that is told for the text of these items."""
        told = error_of(Desk.read, " ".join(items))
        self.assertIsNotNone(told, items)
        self.assertEqual(told[:2], ("BadText", 0))
        return told[2]

    def test_bent_at_each_item(self):
        for text in (TEXT, OPEN, " ".join(SHORT.names) + " / 1 a < a n < and / -5 3"):
            items = text.split(" ")
            slash = items.index("/", 9)
            for place in range(len(items)):
                if place == slash:
                    continue
                # A lone minus is an item of checks.
                for wrong in BENT + (() if 9 <= place < slash else ("-",)):
                    bent = items[:place] + [wrong] + items[place + 1:]
                    self.assertEqual(self.read_error(bent), place, bent)
                    self.assertEqual(self.read_error(bent + ["", "x"]), place, bent)

    def test_items_in_the_place_of_the_second_slash(self):
        items = TEXT.split(" ")
        for wrong, item in (("", 12), ("x", 12), ("//", 12), ("and", 12), ("end", 12), ("=", 12)):
            self.assertEqual(self.read_error(items[:12] + [wrong] + items[13:]), item)
        # These may stand there in a check, which then goes on to the end, and is none.
        for more in ("a", "n", "7", "not"):
            self.assertEqual(self.read_error(items[:12] + [more] + items[13:]), 14)

    def test_missing_items(self):
        items = TEXT.split(" ")
        for many in range(1, 10):
            self.assertEqual(self.read_error(items[:many]), many)
        # A check that is not at its end yet is told by its last item.
        self.assertEqual([self.read_error(items[:many]) for many in range(10, 15)], [9, 10, 12, 13, 14])
        for place, wanted in ((0, 7), (3, 7), (7, 7), (8, 8), (9, 10), (10, 10), (11, 10), (12, 13), (13, 14), (14, 14)):
            self.assertEqual(self.read_error(items[:place] + items[place + 1:]), wanted, place)

    def test_too_few_and_too_many_names(self):
        for many in range(8):
            names = PLAIN.names[:many]
            self.assertEqual(self.read_error([*names, "/", "a", "n", "=", "/", "0", "5"]), many)
            if many:
                self.assertEqual(self.read_error(names), many)
        self.assertEqual(self.read_error([*PLAIN.names, "111", "/", "a", "n", "=", "/", "0", "5"]), 8)
        self.assertEqual(self.read_error([*ALL[3].names, "1", "/", "a", "n", "=", "/", "0", "5"]), 8)
        self.assertEqual(self.read_error(PLAIN.names), 8)

    def test_names_that_begin_one_another(self):
        items = OPEN.split(" ")
        for place in range(8):
            for ahead in range(place):
                for wrong in (items[ahead], items[ahead] + "0", items[ahead] + "11011", items[ahead][:1]):
                    self.assertEqual(self.read_error(items[:place] + [wrong] + items[place + 1:]), place)
            for wrong in ("0" * 9, "2", "0o", "/"):
                self.assertEqual(self.read_error(items[:place] + [wrong] + items[place + 1:]), place)

    def test_checks_that_are_none(self):
        for check in ("a n", "a", "a n + =", "a n = 1 and", "a n = =", "x", "a n = a n =", "not", "1000000000000000001 a <",
                      "a 01 =", "a n = and", "a n = 5", "a n or", "a " * 20 + "a", "a a" + " a +" * 20, "a a =" + " not" * 38):
            wanted = error_of(Puzzle, check)
            self.assertEqual(wanted[:2], ("BadText", 0))
            for end in (" / 0 54", " /", ""):
                self.assertEqual(error_of(Desk.read, NAMES + " / " + check + end), ("BadText", 0, 9 + wanted[2]), check)

    def test_checks_whose_last_item_is_missing_or_a_slash(self):
        self.assertEqual(error_of(Desk.read, NAMES + " / a n / 0 54"), ("BadText", 0, 10))
        self.assertEqual(error_of(Desk.read, NAMES + " / a n / / 0 54"), ("BadText", 0, 10))
        self.assertEqual(error_of(Desk.read, NAMES + " / a n = / / 0 54"), ("BadText", 0, 13))
        self.assertEqual(error_of(Desk.read, NAMES + " / / 0 54"), ("BadText", 0, 9))
        self.assertEqual(error_of(Desk.read, NAMES + " / / a n = / 0 54"), ("BadText", 0, 9))
        self.assertEqual(error_of(Desk.read, NAMES + " /"), ("BadText", 0, 9))
        self.assertEqual(error_of(Desk.read, NAMES + " / a n = 0 54"), ("BadText", 0, 13))
        self.assertEqual(error_of(Desk.read, NAMES + " / a n ="), ("BadText", 0, 12))

    def test_items_behind_the_last_one(self):
        for more in ("", "x", "/", "0", "55"):
            for text in (TEXT, OPEN):
                self.assertEqual(error_of(Desk.read, text + " " + more), ("BadText", 0, 15))
                self.assertEqual(error_of(Desk.read, text + " " + more + " " + more), ("BadText", 0, 15))
            # A tick that cannot stand is told ahead of what stands behind it.
            self.assertEqual(error_of(Desk.read, NAMES + " / a n = / 0 55 " + more), ("BadText", 0, 14))
            self.assertEqual(error_of(Desk.read, NAMES + " / a n = / 0 20001 " + more), ("BadText", 0, 14))

    def test_empty_texts_and_double_blanks(self):
        items = TEXT.split(" ")
        for place in range(15):
            self.assertEqual(self.read_error(items[:place] + [""] + items[place:]), place)
        for text, item in (("", 0), (" ", 0), (" " + TEXT, 0), (TEXT + " ", 15), (TEXT + "\n", 14), (TEXT.replace(" ", "\n"), 0),
                           (TEXT.replace(" ", "  "), 1)):
            self.assertEqual(error_of(Desk.read, text), ("BadText", 0, item), text)

    def test_the_first_of_two_wrong_items(self):
        items = OPEN.split(" ")
        for place in range(15):
            for later in range(place + 1, 15):
                bent = list(items)
                bent[place] = bent[later] = "x"
                self.assertEqual(self.read_error(bent), place)

    def test_no_strings(self):
        for wrong in NO_STRINGS + (Desk(PLAIN, Puzzle("a n ="), 0), TEXT.encode(), TEXT.split(" ")):
            self.assertEqual(error_of(Desk.read, wrong), ("BadText", 0, 0))

    def test_long_texts(self):
        self.assertEqual(error_of(Desk.read, "0 " * 10000), ("BadText", 0, 1))
        self.assertEqual(error_of(Desk.read, (NAMES + " /" + " a" * 9900)[:20000]), ("BadText", 0, 29))
        self.assertEqual(error_of(Desk.read, NAMES + " / a n = /" + " 1" * 9900), ("BadText", 0, 15))


if __name__ == "__main__":
    unittest.main()
