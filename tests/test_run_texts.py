"""Texts of runs: there and back, and which item of a bent one is told."""

import unittest
from random import Random

from duetickers.runs import Run
from tests.slow_machine import WORDS
from tests.told import NO_STRINGS, error_of

BOUND = 10 ** 18
FAR = 10 ** 40
BENT = ("", "x", "\n", "+1", "1.0", "0x1", "1_0", "--1", "-", "\u0661", "\u00b2", "01", "00", "-0", "-01", "1\n", "\t1",
        "1e3", "end", "9" * 141, "-" + "9" * 141, "9" * 5000, "True", "None")


def facts(run):
    """All that is told of a run."""
    return (run.program, run.given, run.left, run.right, run.spot, run.steps, run.has_fallen)


class TestThereAndBack(unittest.TestCase):
    def back(self, run):
        """The run that is read from the text of this one: equal to it, and going on alike."""
        other = Run.read(str(run))
        self.assertEqual(str(other), str(run))
        self.assertIs(other == run, True)
        self.assertEqual(facts(other), facts(run))
        return other

    def test_new_ones(self):
        self.assertEqual(str(Run((), 3)), "/ 3 / 0 3 0 0 / 0")
        self.assertEqual(str(Run(["up", "say"], -5)), "up say / -5 / 0 -5 0 0 / 0")
        self.assertEqual(str(Run(["skip"] * 3, BOUND)), f"skip skip skip / {BOUND} / 0 {BOUND} 0 0 / 0")
        for run in (Run((), 3), Run(["up"], -BOUND), Run(WORDS, 0), Run(["times"] * 200, BOUND)):
            self.back(run)

    def test_behind_steps_and_falls(self):
        luck = Random(8)
        for _ in range(200):
            run = Run([luck.choice(WORDS) for _ in range(luck.randrange(9))], luck.choice((0, 1, -4, 10 ** 9, BOUND)))
            run.go(luck.randrange(60))
            other = self.back(run)
            self.assertEqual(other.go(50), run.go(50))
            self.assertEqual(facts(other), facts(run))

    def test_read_by_name(self):
        self.assertEqual(facts(Run.read(text="up / 5 / 2 -6 1 7 / 0")), (("up",), 5, 2, -6, 1, 7, False))

    def test_any_standing(self):
        for text in ("up say / 5 / 77 -3 1 0 / 0", "/ 0 / 0 0 0 9 / 0", f"say / 1 / {FAR} {BOUND} 1 3 / 1",
                     f"say / {-BOUND} / {-FAR} {-BOUND} 0 {'9' * 140} / 1", f"say / {BOUND} / {BOUND} 0 0 0 / 0",
                     f"say / 0 / {-BOUND} 0 0 0 / 0", f"say / 0 / {BOUND + 1} 0 0 0 / 1",
                     f"say / 0 / {-BOUND - 1} 0 0 0 / 1"):
            self.assertEqual(str(Run.read(text)), text)

    def test_a_run_that_was_read_goes_on(self):
        run = Run.read("up say / 5 / 77 -3 1 40 / 0")
        self.assertEqual(run.go(4), ((41, 77), (44, 78)))
        run = Run.read(f"up say / 5 / {FAR} -3 1 40 / 1")
        self.assertEqual((run.go(4), run.steps, run.spot), ((), 44, 1))
        self.assertIs(run.has_fallen, True)
        self.assertIs(Run.read("up / 5 / 7 -3 1 40 / 0").has_fallen, False)


class TestBentTexts(unittest.TestCase):
    def read_error(self, items):
        """The item that is told for the text of these items."""
        told = error_of(Run.read, " ".join(items))
        self.assertIsNotNone(told, items)
        self.assertEqual(told[:2], ("BadText", 0))
        return told[2]

    def test_bent_at_each_item(self):
        for text in ("up say / 5 / 3 5 0 9 / 0", "/ 5 / 0 5 0 9 / 0", f"say / 5 / {BOUND + 7} 5 0 9 / 1"):
            items = text.split(" ")
            for place in range(len(items)):
                for wrong in BENT:
                    bent = items[:place] + [wrong] + items[place + 1:]
                    self.assertEqual(self.read_error(bent), place, bent)
                    self.assertEqual(self.read_error(bent + ["", "x"]), place, bent)

    def test_a_missing_item_shifts_the_rest(self):
        items = "up say / 5 / 3 5 0 9 / 0".split(" ")
        for place, wanted in ((2, 2), (3, 3), (4, 4), (5, 7), (6, 7), (7, 7), (8, 8), (9, 9), (10, 10)):
            self.assertEqual(self.read_error(items[:place] + items[place + 1:]), wanted)
        self.assertEqual(Run.read(" ".join(items[1:])).program, ("say",))

    def test_items_missing_at_the_end(self):
        for text in ("up say / 5 / 3 5 0 9 / 0", "/ 5 / 0 5 0 9 / 0"):
            items = text.split(" ")
            for many in range(1, len(items)):
                self.assertEqual(self.read_error(items[:many]), many)

    def test_items_behind_the_last_one(self):
        items = "up say / 5 / 3 5 0 9 / 0".split(" ")
        for more in ("", "0", "/", "x", "up"):
            self.assertEqual(self.read_error(items + [more]), len(items))
            self.assertEqual(self.read_error(items + [more, more]), len(items))

    def test_empty_and_double_blanks(self):
        text = "up say / 5 / 3 5 0 9 / 0"
        self.assertEqual(error_of(Run.read, ""), ("BadText", 0, 0))
        self.assertEqual(error_of(Run.read, " "), ("BadText", 0, 0))
        self.assertEqual(error_of(Run.read, " " + text), ("BadText", 0, 0))
        self.assertEqual(error_of(Run.read, text + " "), ("BadText", 0, 11))
        self.assertEqual(error_of(Run.read, " / 5 / 0 5 0 0 / 0"), ("BadText", 0, 0))
        for place in range(1, 11):
            items = text.split(" ")
            items.insert(place, "")
            self.assertEqual(self.read_error(items), place)

    def test_bounds(self):
        rows = ((1, (-BOUND, BOUND), (-BOUND - 1, BOUND + 1)), (4, (-BOUND, BOUND), (-BOUND - 1, BOUND + 1)),
                (5, (0, 1), (-1, 2)), (6, (0, 10 ** 139), (-1, 10 ** 140)))
        for at, good, wrong in rows:
            for number in good:
                items = "up / 5 / 3 5 0 9 / 0".split(" ")
                items[at + 1] = str(number)
                self.assertEqual(str(Run.read(" ".join(items))), " ".join(items))
            for number in wrong:
                items[at + 1] = str(number)
                self.assertEqual(self.read_error(items), at + 1)

    def test_bounds_of_the_left_box(self):
        for left, sign in ((BOUND, 0), (-BOUND, 0), (BOUND + 1, 1), (-BOUND - 1, 1), (FAR, 1), (-FAR, 1), (0, 0)):
            text = f"up / 5 / {left} 5 0 9 / "
            self.assertEqual(str(Run.read(text + str(sign))), text + str(sign))
            self.assertEqual(error_of(Run.read, text + str(1 - sign)), ("BadText", 0, 9))
        for left in (FAR + 1, -FAR - 1, 10 ** 41, 10 ** 139):
            for sign in (0, 1):
                self.assertEqual(error_of(Run.read, f"up / 5 / {left} 5 0 9 / {sign}"), ("BadText", 0, 4))

    def test_spots_at_end_and_beyond(self):
        for many in (0, 1, 2, 200):
            words = "say " * many
            self.assertEqual(Run.read(f"{words}/ 5 / 3 5 {many} 9 / 0").spot, many)
            self.assertEqual(error_of(Run.read, f"{words}/ 5 / 3 5 {many + 1} 9 / 0"), ("BadText", 0, many + 5))
            self.assertEqual(error_of(Run.read, f"{words}/ 5 / 3 5 -1 9 / 0"), ("BadText", 0, many + 5))

    def test_signs_at_the_end(self):
        for wrong in ("2", "-1", "00", "01", "10", "-0", "", "/", "False"):
            self.assertEqual(error_of(Run.read, f"up / 5 / 3 5 0 9 / {wrong}"), ("BadText", 0, 9))
            self.assertEqual(error_of(Run.read, f"up / 5 / {10 ** 20} 5 0 9 / {wrong}"), ("BadText", 0, 9))

    def test_words(self):
        for word in WORDS:
            self.assertEqual(Run.read(f"{word} {word} / 5 / 3 5 0 9 / 0").program, (word, word))
        for wrong in ("end", "Up", "ups", "u", "5", "-", "//", "/up"):
            for place in range(3):
                items = "up say / 5 / 3 5 0 9 / 0".split(" ")
                items.insert(place, wrong)
                self.assertEqual(self.read_error(items), place)

    def test_two_hundred_words_and_one_more(self):
        behind = "/ 5 / 3 5 0 9 / 0".split(" ")
        self.assertEqual(len(Run.read(" ".join(["up"] * 200 + behind)).program), 200)
        self.assertEqual(self.read_error(["up"] * 201 + behind), 200)
        self.assertEqual(self.read_error(["up"] * 200), 200)
        self.assertEqual(self.read_error(["up"] * 200 + ["x"]), 200)
        self.assertEqual(self.read_error(["up"] * 5000), 200)
        self.assertEqual(self.read_error(["up"] * 199 + ["x", "up", "up"]), 199)

    def test_the_first_of_two_wrong_items(self):
        items = "up say / 5 / 3 5 0 9 / 0".split(" ")
        for place in range(11):
            for later in range(place + 1, 11):
                bent = list(items)
                bent[place] = bent[later] = "x"
                self.assertEqual(self.read_error(bent), place)

    def test_no_strings(self):
        for wrong in NO_STRINGS + (Run(["up"], 5), b"up / 5 / 3 5 0 9 / 0", "up / 5 / 3 5 0 9 / 0".split(" ")):
            self.assertEqual(error_of(Run.read, wrong), ("BadText", 0, 0))

    def test_long_text(self):
        self.assertEqual(error_of(Run.read, "up " * 6666), ("BadText", 0, 200))
        self.assertEqual(error_of(Run.read, "/ " * 10000), ("BadText", 0, 1))
        self.assertEqual(error_of(Run.read, "/ " + "1" * 19998), ("BadText", 0, 1))


if __name__ == "__main__":
    unittest.main()
