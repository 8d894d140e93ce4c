"""Puzzles: which texts are checks, what lies on the pile, which answers are right."""

import unittest
from itertools import product
from random import Random

from duetickers.puzzles import (Parted, Puzzle, Same, both_of, either_of, is_right, judged_alike, piles_of,
                                right_answers, turned_of)
from tests.slow_machine import slow_rem, slow_right
from tests.told import NO_INTEGERS, NO_STRINGS, Odd, error_of, seconds_of

BOUND = 10 ** 18
TWO_NUMBERS = ("+", "-", "*", "rem", "=", "<")
TWO_TRUTHS = ("and", "or")
SAME = Puzzle("a n =")
NO_PUZZLES = (None, True, 0, 1.5, "a n =", b"a n =", ["a", "n", "="], ("a n =",), {}, object(), Odd(), Puzzle)
BEYOND = (BOUND + 1, -BOUND - 1, 10 ** 300)


def item_told(text):
    """The item that is told for a text that is no check."""
    told = error_of(Puzzle, text)
    assert told is not None and told[:2] == ("BadText", 0), (text, told)
    return told[2]


def checks(luck, most):
    """The items of some check, one thing behind another at the bottom: at most so many."""
    while True:
        items, pile = [], []
        while len(items) < most:
            choice = ["a", "n", str(luck.randrange(-9, 10)), "a", "n"]
            if pile[-2:] == [0, 0]:
                choice += TWO_NUMBERS * 2
            if pile[-2:] == [1, 1]:
                choice += TWO_TRUTHS * 4
            if pile[-1:] == [1]:
                choice += ["not"]
            item = luck.choice(choice)
            items.append(item)
            if item in TWO_NUMBERS + TWO_TRUTHS:
                del pile[-2:]
            if item == "not":
                pile.pop()
            pile.append(int(item in ("=", "<", "and", "or", "not")))
            if len(pile) > 20:
                break
            if pile == [1] and luck.random() < 0.5:
                return items


class TestExamples(unittest.TestCase):
    def test_divide(self):
        divide = Puzzle("1 a < a n < and n a rem 0 = and")
        told = [divide.cost, is_right(divide, 91, 7), is_right(divide, 91, 91), is_right(divide, 91, 1),
                right_answers(divide, 91, -100, 100), right_answers(divide, 97, 0, 97)]
        self.assertEqual(told, [13, True, False, False, (7, 13), ()])

    def test_piles(self):
        self.assertEqual(piles_of(Puzzle("a a * n ="), 49, -7), ((-7,), (-7, -7), (49,), (49, 49), (True,)))
        told = [piles_of(Puzzle("n a rem 0 <"), given, answer)[2]
                for given, answer in ((7, 3), (-7, 3), (7, -3), (-7, -3), (7, 0))]
        self.assertEqual(told, [(1,), (2,), (1,), (2,), (7,)])

    def test_root(self):
        root = Puzzle("a a * n =")
        told = [right_answers(root, 49, -10, 10), right_answers(both_of(root, Puzzle("0 a <")), 49, -10, 10),
                turned_of(root).text, either_of(root, root).cost]
        self.assertEqual(told, [(-7, 7), (7,), "a a * n = not", 11])

    def test_alike(self):
        self.assertEqual(judged_alike(Puzzle("a n <"), Puzzle("n a < a n = or not"), 9), Same(9))
        self.assertEqual(judged_alike(Puzzle("a n <"), Puzzle("a 1 + n <"), 2).parts, (-1, -2))

    def test_errors(self):
        for text, item in (("a n + =", 3), ("a n", 1), ("a n = 1 and", 4)):
            self.assertEqual(error_of(Puzzle, text), ("BadText", 0, item))


class TestChecks(unittest.TestCase):
    def test_a_puzzle(self):
        for text in ("a n =", "0 1 <", "a n = not not", "a n < n a < or"):
            for puzzle in (Puzzle(text), Puzzle(text=text)):
                self.assertEqual((puzzle.text, puzzle.cost, str(puzzle)), (text, len(text.split()), text))

    def test_too_little_on_the_pile(self):
        for item in TWO_NUMBERS + TWO_TRUTHS + ("not",):
            self.assertEqual(item_told(item), 0)
            self.assertEqual(item_told(item + " a n ="), 0)
        for item in TWO_NUMBERS + TWO_TRUTHS:
            self.assertEqual(item_told("a " + item), 1)
            self.assertEqual(item_told("a n = " + item), 3)
            self.assertEqual(item_told(f"a n = {item} a n ="), 3)

    def test_the_other_kind_of_thing(self):
        for item in TWO_NUMBERS:
            self.assertEqual(item_told(f"a n = a n = {item}"), 6)
            self.assertEqual(item_told(f"a a n = {item}"), 4)
            self.assertEqual(item_told(f"a n = a {item}"), 4)
        for item in TWO_TRUTHS:
            self.assertEqual(item_told(f"a n {item}"), 2)
            self.assertEqual(item_told(f"a a n = {item}"), 4)
            self.assertEqual(item_told(f"a n = a {item}"), 4)
        self.assertEqual(item_told("a not"), 1)
        self.assertEqual(item_told("a n = a not"), 4)

    def test_each_item_leaves_its_kind(self):
        for item in ("+", "-", "*", "rem"):
            self.assertEqual(Puzzle(f"a n {item} 5 =").cost, 5)
            self.assertEqual(item_told(f"a n {item} not"), 3)
            self.assertEqual(item_told(f"a n {item}"), 2)
        for item in ("=", "<"):
            self.assertEqual(Puzzle(f"a n {item} not").cost, 4)
            self.assertEqual(item_told(f"a n {item} 5 +"), 4)
        for item in TWO_TRUTHS:
            self.assertEqual(Puzzle(f"a n = a n = {item} not").cost, 8)
            self.assertEqual(item_told(f"a n = a n = {item} 5 ="), 8)
        self.assertEqual(item_told("a n = not 1 ="), 5)
        for item in ("a", "n", "7"):
            self.assertEqual(item_told(f"{item} not"), 1)

    def test_none_of_the_table(self):
        for wrong in ("", "b", "A", "N", "x", "==", ">", "<=", "And", "%", "/", "//", "**", "rem2", "nota", "\n",
                      "a\n", "\ta", "true", "True", "1.0", "+1", "--1", "1_0", "01", "-0", "-01", "00", "0x1",
                      "\u0661", "\u00b2", "\uff11", str(BOUND + 1), str(-BOUND - 1), "9" * 140, "9" * 141, "9" * 5000):
            for place, text in ((0, "{} n ="), (1, "a {} ="), (2, "a n {}"), (3, "a n = {} and")):
                self.assertEqual(item_told(text.format(wrong)), place, (wrong, place))

    def test_numbers_at_the_bounds(self):
        for number in (0, 7, -7, BOUND, -BOUND, BOUND - 1):
            self.assertEqual(piles_of(Puzzle(f"{number} a ="), 0, 0)[0], (number,))

    def test_forty_items_and_one_more(self):
        forty = "a n = " + " ".join(["not"] * 37)
        self.assertEqual(Puzzle(forty).cost, 40)
        self.assertEqual(item_told(forty + " not"), 40)
        self.assertEqual(item_told(forty + " x not"), 40)
        self.assertEqual(item_told(forty + " a a ="), 40)
        self.assertEqual(item_told("a n = " + "not " * 36 + "x not"), 39)
        self.assertEqual(item_told("a n = " + "not " * 9996), 40)

    def test_twenty_things_and_one_more(self):
        twenty = " ".join(["a"] * 20)
        self.assertEqual(Puzzle(twenty + " +" * 18 + " =").cost, 39)
        self.assertEqual(max(map(len, piles_of(Puzzle(twenty + " +" * 18 + " <"), 1, 1))), 20)
        self.assertEqual(item_told(twenty + " a" + " +" * 18 + " ="), 20)
        self.assertEqual(item_told("a n = " + " ".join(["a"] * 20)), 22)
        self.assertEqual(item_told("a n = " + " ".join(["a"] * 19)), 21)
        self.assertEqual(item_told(twenty), 19)

    def test_what_is_left_in_the_end(self):
        for text, item in (("a", 0), ("5", 0), ("a n", 1), ("a n +", 2), ("a n = a", 3), ("a n = a n =", 5),
                           ("a a n =", 3), ("a n = a n = not", 6)):
            self.assertEqual(item_told(text), item)

    def test_empty_and_double_blanks(self):
        for text, item in (("", 0), (" ", 0), (" a n =", 0), ("a n = ", 3), ("a  n =", 1), ("a n  =", 2)):
            self.assertEqual(item_told(text), item)

    def test_no_strings(self):
        for wrong in NO_STRINGS + (SAME, b"a n =", ["a", "n", "="], ("a", "n", "=")):
            self.assertEqual(error_of(Puzzle, wrong), ("BadText", 0, 0))

    def test_all_short_texts(self):
        luck = Random(2)
        items = ("a", "n", "3", "+", "rem", "=", "<", "and", "or", "not", "x")
        for many in (1, 2, 3, 4):
            for row in product(items, repeat=many):
                if many < 4 or luck.random() < 0.2:
                    self.one_text(row)

    def one_text(self, row):
        """Whether the text of the row is taken or refused at the right item, by rewriting the pile as a string."""
        pile, wrong = "", None
        for place, item in enumerate(row):
            takes = {"+": "..", "rem": "..", "=": "..", "<": "..", "and": "!!", "or": "!!", "not": "!"}.get(item, "")
            if item == "x" or not pile.endswith(takes):
                wrong = place
                break
            pile = pile[:len(pile) - len(takes)] + (("!" if item in "= < and or not".split() else "."))
        if wrong is None and pile != "!":
            wrong = len(row) - 1
        self.assertEqual(error_of(Puzzle, " ".join(row)), None if wrong is None else ("BadText", 0, wrong), row)

    def test_equal_by_their_texts(self):
        texts = ("a n =", "n a =", "a n = not not", "a 1 =", "a 2 =")
        for one in texts:
            for other in texts:
                self.assertIs(Puzzle(one) == Puzzle(other), one == other)
                self.assertIs(Puzzle(one) != Puzzle(other), one != other)
        for other in NO_PUZZLES:
            self.assertIs(SAME.__eq__(other), False)
            if not isinstance(other, Odd):
                self.assertIs(SAME == other, False)

    def test_methods_stand_in_the_class(self):
        for method in ("__init__", "__eq__", "__str__"):
            self.assertIn(method, vars(Puzzle))


class TestRight(unittest.TestCase):
    def test_each_item(self):
        for given, answer in product(range(-4, 5), repeat=2):
            for item, number in (("+", answer + given), ("-", answer - given), ("*", answer * given),
                                 ("rem", slow_rem(answer, given))):
                told = piles_of(Puzzle(f"a n {item} 0 ="), given, answer)
                self.assertEqual(told, ((answer,), (answer, given), (number,), (number, 0), (number == 0,)))
            self.assertEqual(piles_of(Puzzle("a n ="), given, answer)[2], (answer == given,))
            self.assertEqual(piles_of(Puzzle("a n <"), given, answer)[2], (answer < given,))

    def test_truths(self):
        for one, other in product((0, 1), repeat=2):
            for item, truth in (("and", one and other), ("or", one or other)):
                piles = piles_of(Puzzle(f"a 1 = n 1 = {item}"), other, one)
                self.assertEqual(piles[5], (bool(one), bool(other)))
                self.assertIs(piles[6][0], bool(truth))
            self.assertIs(piles_of(Puzzle("a 1 = not"), other, one)[3][0], not one)

    def test_rem_with_each_sign(self):
        rem = Puzzle("a n rem 0 =")
        for low, high in product(list(range(-12, 13)) + [BOUND, -BOUND, BOUND - 1], list(range(-5, 6))):
            self.assertEqual(piles_of(rem, high, low)[2], (slow_rem(low, high),))
        for low, high, rest in ((BOUND, BOUND, 0), (-BOUND, BOUND, 0), (-1, BOUND, BOUND - 1), (-1, -BOUND, BOUND - 1),
                                (5, -BOUND, 5), (0, 0, 0), (-7, 0, -7), (BOUND - 1, -BOUND, BOUND - 1)):
            self.assertEqual(piles_of(rem, high, low)[2], (rest,))

    def test_numbers_far_beyond_the_bounds(self):
        self.assertEqual(item_told(" ".join(["a"] * 20 + ["*"] * 19 + ["0"])), 39)
        great = Puzzle(" ".join(["a"] * 19 + ["*"] * 18 + ["0", "<"]))
        piles = piles_of(great, 0, -BOUND)
        self.assertEqual((piles[-3], piles[-1]), ((-10 ** (18 * 19),), (True,)))
        self.assertIs(is_right(great, 0, BOUND), False)
        back = Puzzle("a a * a - n rem 3 =")
        self.assertEqual(piles_of(back, BOUND - 1, BOUND)[4], (10 ** 36 - 10 ** 18,))
        self.assertEqual(piles_of(back, BOUND - 1, BOUND)[6], (0,))

    def test_against_expressions_of_python(self):
        luck = Random(4)
        for _ in range(400):
            text = " ".join(checks(luck, luck.choice((5, 12, 40))))
            puzzle = Puzzle(text)
            for given, answer in ((0, 0), (3, -2), (-5, 4), (luck.randrange(-30, 30), luck.randrange(-30, 30))):
                truth = slow_right(text, given, answer)
                self.assertIs(is_right(puzzle, given, answer), truth, text)
                piles = piles_of(puzzle, given, answer)
                self.assertEqual((len(piles), piles[-1]), (puzzle.cost, (truth,)))
                self.assertIs(type(piles[-1][0]), bool)

    def test_right_answers(self):
        luck = Random(6)
        for _ in range(60):
            text = " ".join(checks(luck, 15))
            wanted = tuple(answer for answer in range(-12, 9) if slow_right(text, 3, answer))
            self.assertEqual(right_answers(Puzzle(text), 3, -12, 8), wanted)
        self.assertEqual(right_answers(most=5, least=3, given=4, puzzle=Puzzle("a n < not")), (4, 5))

    def test_bounds_of_answers(self):
        all_right = Puzzle("0 1 <")
        for least, most, many in ((0, 4999, 5000), (-BOUND, -BOUND + 4999, 5000), (7, 7, 1), (7, 6, 0), (BOUND, -BOUND, 0),
                                  (BOUND, BOUND, 1)):
            self.assertEqual(right_answers(all_right, 0, least, most), tuple(range(least, most + 1)))
            self.assertEqual(len(right_answers(all_right, 0, least, most)), many)
        for least, most in ((0, 5000), (-2500, 2500), (-BOUND, BOUND), (BOUND - 5000, BOUND)):
            self.assertEqual(error_of(right_answers, all_right, 0, least, most), ("TooMany", "answers", 5000))

    def test_wrong_numbers(self):
        for wrong in NO_INTEGERS + BEYOND:
            for call in (is_right, piles_of):
                self.assertEqual(error_of(call, SAME, wrong, 0), ("BadNumber", "given"))
                self.assertEqual(error_of(call, SAME, 0, wrong), ("BadNumber", "answer"))
            for place, part in ((1, "given"), (2, "least"), (3, "most")):
                given = [SAME, 0, 0, 0]
                given[place] = wrong
                self.assertEqual(error_of(right_answers, *given), ("BadNumber", part))
        for call in (is_right, piles_of):
            self.assertIsNone(error_of(call, SAME, BOUND, -BOUND))
            self.assertIsNone(error_of(call, answer=BOUND, given=-BOUND, puzzle=SAME))

    def test_the_first_wrong_one_is_told(self):
        for call in (is_right, piles_of):
            self.assertEqual(error_of(call, "a n =", None, None), ("BadPuzzle", "puzzle"))
            self.assertEqual(error_of(call, SAME, None, None), ("BadNumber", "given"))
        self.assertEqual(error_of(right_answers, None, None, None, None), ("BadPuzzle", "puzzle"))
        self.assertEqual(error_of(right_answers, SAME, None, None, None), ("BadNumber", "given"))
        self.assertEqual(error_of(right_answers, SAME, 0, None, None), ("BadNumber", "least"))
        self.assertEqual(error_of(right_answers, SAME, 0, -BOUND, BOUND + 1), ("BadNumber", "most"))

    def test_wrong_puzzles(self):
        for wrong in NO_PUZZLES:
            self.assertEqual(error_of(is_right, wrong, 0, 0), ("BadPuzzle", "puzzle"))
            self.assertEqual(error_of(piles_of, wrong, 0, 0), ("BadPuzzle", "puzzle"))
            self.assertEqual(error_of(right_answers, wrong, 0, 0, 0), ("BadPuzzle", "puzzle"))
            self.assertEqual(error_of(turned_of, wrong), ("BadPuzzle", "puzzle"))
            for call in (both_of, either_of):
                self.assertEqual(error_of(call, wrong, SAME), ("BadPuzzle", "one"))
                self.assertEqual(error_of(call, SAME, wrong), ("BadPuzzle", "other"))
                self.assertEqual(error_of(call, wrong, wrong), ("BadPuzzle", "one"))
            self.assertEqual(error_of(judged_alike, wrong, wrong, -1), ("BadPuzzle", "one"))
            self.assertEqual(error_of(judged_alike, SAME, wrong, -1), ("BadPuzzle", "other"))

    def test_short_time(self):
        great = Puzzle(" ".join([str(BOUND)] * 20 + ["*"] * 18 + ["="]))
        self.assertLess(seconds_of(right_answers, great, 0, 0, 4999), 3)
        self.assertLess(seconds_of(judged_alike, great, great, 20), 3)


class TestMadeOfOthers(unittest.TestCase):
    def of_cost(self, cost):
        """A puzzle of this cost, from 3 on."""
        return Puzzle("a n =" + " not" * (cost - 3))

    def test_texts_and_truths(self):
        one, other = Puzzle("a 0 <"), Puzzle("n a <")
        self.assertEqual(both_of(one, other).text, "a 0 < n a < and")
        self.assertEqual(either_of(one, other).text, "a 0 < n a < or")
        self.assertEqual(turned_of(one).text, "a 0 < not")
        self.assertEqual(both_of(other=one, one=other), Puzzle("n a < a 0 < and"))
        self.assertEqual(either_of(other=one, one=other), Puzzle("n a < a 0 < or"))
        self.assertEqual(turned_of(puzzle=one).cost, 4)
        for given, answer in product(range(-3, 4), repeat=2):
            truths = [is_right(puzzle, given, answer) for puzzle in (one, other)]
            self.assertIs(is_right(both_of(one, other), given, answer), all(truths))
            self.assertIs(is_right(either_of(one, other), given, answer), any(truths))
            self.assertIs(is_right(turned_of(one), given, answer), not truths[0])
        self.assertEqual((one.text, other.text), ("a 0 <", "n a <"))

    def test_forty_items_and_one_more(self):
        for call in (both_of, either_of):
            self.assertEqual(call(self.of_cost(20), self.of_cost(19)).cost, 40)
            self.assertEqual(call(self.of_cost(3), self.of_cost(36)).cost, 40)
            for one, other in ((20, 20), (3, 37), (37, 3), (40, 40)):
                self.assertEqual(error_of(call, self.of_cost(one), self.of_cost(other)), ("TooMany", "items", 40))
        self.assertEqual(turned_of(self.of_cost(39)).cost, 40)
        self.assertEqual(error_of(turned_of, self.of_cost(40)), ("TooMany", "items", 40))

    def test_twenty_things_are_too_many_items(self):
        deep = Puzzle(" ".join(["a"] * 20 + ["+"] * 18 + ["="]))
        for call in (both_of, either_of):
            self.assertEqual(error_of(call, SAME, deep), ("TooMany", "items", 40))
            nineteen = Puzzle(" ".join(["a"] * 18 + ["+"] * 16 + ["="]))
            self.assertEqual(call(SAME, nineteen).cost, 39)


class TestAlike(unittest.TestCase):
    def slow_judged(self, one, other, most):
        """The paper, by a list of all pairs that part the two."""
        parted = [pair for pair in product(range(-most, most + 1), repeat=2)
                  if slow_right(one.text, *pair) != slow_right(other.text, *pair)]
        return Parted(*min(parted)) if parted else Same(most)

    def test_against_all_pairs(self):
        luck = Random(9)
        for _ in range(120):
            one, other = (Puzzle(" ".join(checks(luck, 9))) for _ in range(2))
            for most in (0, 1, 3):
                told = judged_alike(one, other, most)
                self.assertEqual(told, self.slow_judged(one, other, most))
                self.assertEqual(judged_alike(other, one, most), told)
                self.assertIs(bool(told), told.word == "same")

    def test_most_at_the_bounds(self):
        self.assertEqual(judged_alike(SAME, Puzzle("n a ="), 0), Same(0))
        self.assertEqual(judged_alike(SAME, Puzzle("n a ="), 20), Same(20))
        self.assertEqual(judged_alike(SAME, Puzzle("0 1 ="), 0), Parted(0, 0))
        self.assertEqual(judged_alike(most=20, other=Puzzle("20 a <"), one=Puzzle("19 a <")), Parted(-20, 20))
        self.assertEqual(judged_alike(Puzzle("19 n <"), Puzzle("0 1 ="), 20), Parted(20, -20))
        self.assertEqual(judged_alike(Puzzle("20 n <"), Puzzle("0 1 ="), 20), Same(20))
        for wrong in NO_INTEGERS + (-1, 21, 10 ** 30):
            self.assertEqual(error_of(judged_alike, SAME, SAME, wrong), ("BadNumber", "most"))

    def test_papers(self):
        self.assertEqual((Same(most=[4]).most, Same([4]).parts, Same(4).word, bool(Same(4))), ((4,), ((4,),), "same", True))
        paper = Parted(answer=[2], given=1)
        self.assertEqual((paper.given, paper.answer, paper.parts, paper.word, bool(paper)),
                         (1, (2,), (1, (2,)), "parted", False))


if __name__ == "__main__":
    unittest.main()
