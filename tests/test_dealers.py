"""Dealers: first shares, wins, shares and factors now, copies, and texts there and back."""

import unittest
from fractions import Fraction
from random import Random

from duetickers.dealers import Dealer
from tests.lots import MOST, told
from tests.told import NO_INTEGERS, NO_LISTS, NO_STRINGS, Odd, error_of, seconds_of

FAR = 10 ** 30
GREAT = [(1, MOST - 7 * place) for place in range(40)]
NO_SHARES = NO_LISTS + ([], (), [(1, 41)] * 41, [(0, 1)], [(1, 0)], [(1, MOST + 1)], [(MOST + 1, MOST + 1)], [(-1, 2)],
                        [(1, True)], [(True, 1)], [(1, 2, 3)], [(1,)], [[]], [1, 2], (1, 2), [(1, 2), 3], ["12"], "12",
                        {(1, 2)}, {(1, 2): 1}, [{1: 1, 2: 2}], [range(1, 3)], [(1, 2.0)], [(2, 1)], [(1, 1), (1, MOST)])
BENT = ("", "x", "\n", "+1", "1.0", "0x1", "1_0", "--1", "-", "-1", "\u0661", "\u00b2", "01", "00", "-0", "1\n", "\t1", "1e3",
        "9" * 141, "9" * 5000, "True", "None", "1000001")


def some_shares():
    """Shares that sum to 1, and to less, among them pairs that are not reduced."""
    luck = Random(90)
    rows = [[(1, 1)], [(MOST, MOST)], [(1, MOST)], [(1, 2), (1, 2)], [(2, 4), (1, 4), (2, 8)], [(1, 3)] * 3, [(1, 40)] * 40,
            [(25, 1000)] * 40, GREAT, [(1, 2), (1, 3)], [(2, 3), (1, 6), (1, 6)], [(999999, MOST), (1, MOST)]]
    for many in (2, 3, 7, 19, 40):
        units = [luck.randrange(1, 50) for _ in range(many)]
        rows.append([(unit, sum(units)) for unit in units])
        rows.append([(unit, sum(units) + luck.randrange(1, 90)) for unit in units])
    return rows


def slow_now(shares, wins):
    """The shares now, by Python's own fractions."""
    total = sum(wins)
    if total == 0:
        return tuple(told(Fraction(*share)) for share in shares)
    return tuple(told(Fraction(*share) / 2 + Fraction(often, 2 * total)) for share, often in zip(shares, wins))


def facts(dealer):
    """All that is told of a dealer."""
    return (dealer.shares, dealer.wins, dealer.shares_now(), dealer.factors_now(), str(dealer))


class TestExamples(unittest.TestCase):
    def test_wins(self):
        dealer = Dealer([(1, 2), [1, 4], (2, 8)])
        first = ((1, 2), (1, 4), (1, 4))
        found = [dealer.shares, dealer.shares_now(), dealer.won(1), dealer.shares_now(), dealer.factors_now()]
        self.assertEqual(found, [first, first, 1, ((1, 4), (5, 8), (1, 8)), ((4, 1), (8, 5), (8, 1))])
        found = [dealer.won(place=1), dealer.won(0), dealer.wins, dealer.shares_now(), str(dealer),
                 Dealer.read("1 2 1 / 1 4 2 / 1 4 0") == dealer]
        self.assertEqual(found, [2, 1, (1, 2, 0), ((5, 12), (11, 24), (1, 8)), "1 2 1 / 1 4 2 / 1 4 0", True])
        other = dealer.copy()
        found = [other == dealer, other.won(2), other == dealer, dealer.wins, Dealer([(1, 3)]).factors_now()]
        self.assertEqual(found, [True, 1, False, (1, 2, 0), ((3, 1),)])

    def test_errors(self):
        self.assertEqual(error_of(Dealer, [(1, 2), (2, 3)]), ("BadDealer", "shares"))
        self.assertEqual(error_of(Dealer.read, "1 2 0 / 2 4 0"), ("BadText", 0, 5))
        self.assertEqual(error_of(Dealer.read, "1 2 0 / 2 3 0"), ("BadText", 0, 5))


class TestShares(unittest.TestCase):
    def test_new_ones(self):
        for shares in some_shares():
            wanted = tuple(told(Fraction(*share)) for share in shares)
            for given in (shares, tuple(shares), [list(share) for share in shares]):
                dealer = Dealer(given)
                self.assertEqual((dealer.shares, dealer.wins), (wanted, (0,) * len(shares)))
                self.assertEqual(dealer.shares_now(), wanted)
                self.assertEqual(dealer.factors_now(), tuple((down, up) for up, down in wanted))
        self.assertEqual(Dealer(shares=[(2, 6)]).shares, ((1, 3),))

    def test_sums_just_1_and_a_little_above(self):
        for shares in some_shares():
            free = 1 - sum(Fraction(*share) for share in shares)
            if free == 0 and len(shares) < 40:
                self.assertEqual(error_of(Dealer, shares + [(1, MOST)]), ("BadDealer", "shares"))
            up, down = shares[-1]
            if free == 0 and down < MOST and up > 1:
                self.assertEqual(error_of(Dealer, shares[:-1] + [(up, down - 1)]), ("BadDealer", "shares"))
                self.assertIsNone(error_of(Dealer, shares[:-1] + [(up, down + 1)]))
        for above in ([(MOST, MOST - 1)], [(2, 1)], [(MOST, 1)], [(1, 2), (500001, MOST)], [(1, 40)] * 39 + [(1, 39)],
                      [(1, 1)] * 2, [(1, 1)] * 40, [(999999, MOST), (1, 999999)]):
            self.assertEqual(error_of(Dealer, above), ("BadDealer", "shares"), above)

    def test_wrong_shares(self):
        for wrong in NO_SHARES:
            self.assertEqual(error_of(Dealer, wrong), ("BadDealer", "shares"))
        for wrong in NO_INTEGERS + (0, -1, MOST + 1, FAR):
            for share in ((wrong, MOST), (1, wrong), [wrong, MOST], [1, wrong]):
                self.assertEqual(error_of(Dealer, [share]), ("BadDealer", "shares"))
                self.assertEqual(error_of(Dealer, [(1, 2), share]), ("BadDealer", "shares"))

    def test_numbers_of_shares(self):
        for many in (1, 2, 39, 40):
            self.assertEqual(len(Dealer([(1, 40)] * many).wins), many)
        for many in (0, 41, 400):
            self.assertEqual(error_of(Dealer, [(1, MOST)] * many), ("BadDealer", "shares"))

    def test_what_is_passed_stays_and_may_change_behind(self):
        shares = [[2, 4], [1, 4]]
        dealer = Dealer(shares)
        dealer.won(0)
        self.assertEqual(shares, [[2, 4], [1, 4]])
        shares[0][0] = 9
        shares.append([1, 9])
        self.assertEqual(dealer.shares, ((1, 2), (1, 4)))
        self.assertEqual(dealer.shares_now(), ((3, 4), (1, 8)))

    def test_methods_stand_in_the_class(self):
        for method in ("__init__", "__eq__", "__str__", "won", "shares_now", "factors_now", "copy", "read"):
            self.assertIn(method, vars(Dealer))


class TestWins(unittest.TestCase):
    def test_shares_now_behind_each_win(self):
        luck = Random(91)
        for shares in some_shares():
            dealer, wins = Dealer(shares), [0] * len(shares)
            for _ in range(60 if len(shares) < 40 else 9):
                place = luck.choice((0, len(shares) - 1, luck.randrange(len(shares))))
                wins[place] += 1
                self.assertEqual(dealer.won(place), wins[place])
                self.assertEqual(dealer.wins, tuple(wins))
                now = slow_now(shares, wins)
                self.assertEqual(dealer.shares_now(), now)
                self.assertEqual(dealer.factors_now(), tuple((down, up) for up, down in now))
                self.assertLessEqual(sum(Fraction(*share) for share in now), 1)
            self.assertEqual(dealer.shares, Dealer(shares).shares)

    def test_no_factor_now_is_more_than_twice_the_first_one(self):
        for shares in some_shares():
            dealer = Dealer(shares)
            for _ in range(20):
                dealer.won(0)
            for (up, down), (up_now, down_now) in zip(dealer.shares, dealer.factors_now()):
                self.assertLessEqual(Fraction(up_now, down_now), 2 * Fraction(down, up))

    def test_places(self):
        for many in (1, 2, 40):
            dealer = Dealer([(1, 40)] * many)
            for wrong in NO_INTEGERS + (-1, many, 41, FAR, -FAR):
                before = facts(dealer)
                self.assertEqual(error_of(dealer.won, wrong), ("BadNumber", "place"))
                self.assertEqual(facts(dealer), before)
            self.assertEqual((dealer.won(0), dealer.won(many - 1)), (1, 2 if many == 1 else 1))

    def test_the_last_win_and_one_more(self):
        dealer = Dealer.read("1 2 999999 / 1 4 7 / 1 8 1000000")
        self.assertEqual(dealer.won(0), 1000000)
        before = facts(dealer)
        for place in (0, 2):
            self.assertEqual(error_of(dealer.won, place), ("TooMany", "wins", 1000000))
            self.assertEqual(facts(dealer), before)
        self.assertEqual((dealer.won(1), dealer.wins), (8, (1000000, 8, 1000000)))
        self.assertEqual(dealer.shares_now(), slow_now([(1, 2), (1, 4), (1, 8)], (1000000, 8, 1000000)))
        self.assertEqual(error_of(dealer.won, 3), ("BadNumber", "place"))

    def test_a_copy_goes_on_by_itself(self):
        dealer = Dealer([(1, 2), (1, 3)])
        dealer.won(0)
        other = dealer.copy()
        self.assertIs(type(other), Dealer)
        self.assertEqual(facts(other), facts(dealer))
        self.assertEqual((other.won(1), other.won(1)), (1, 2))
        self.assertEqual((dealer.wins, other.wins), ((1, 0), (1, 2)))
        self.assertEqual(dealer.won(0), 2)
        self.assertEqual((dealer.wins, other.wins), ((2, 0), (1, 2)))
        self.assertEqual(dealer.shares_now(), slow_now([(1, 2), (1, 3)], (2, 0)))

    def test_equal(self):
        one, other = Dealer([(1, 2), (1, 4)]), Dealer([[2, 4], [2, 8]])
        self.assertIs(one == other, True)
        one.won(0)
        self.assertIs(one == other, False)
        self.assertIs(one != other, True)
        other.won(1)
        self.assertIs(one == other, False)
        one.won(1)
        other.won(0)
        self.assertIs(one == other, True)
        self.assertIs(Dealer([(1, 2)]) == Dealer([(1, 3)]), False)
        self.assertIs(Dealer([(1, 2)]) == Dealer([(1, 2), (1, 2)]), False)
        for value in (None, "1 2 0", ((1, 2),), 5, object()):
            self.assertIs(Dealer([(1, 2)]) == value, False)
        self.assertIs(Dealer([(1, 2)]).__eq__(Odd()), False)


class TestThereAndBack(unittest.TestCase):
    def test_behind_drawn_wins(self):
        luck = Random(92)
        for shares in some_shares():
            dealer = Dealer(shares)
            for _ in range(luck.randrange(30)):
                dealer.won(luck.randrange(len(shares)))
            wanted = " / ".join(f"{up} {down} {often}" for (up, down), often in zip(dealer.shares, dealer.wins))
            self.assertEqual(str(dealer), wanted)
            other = Dealer.read(text=wanted)
            self.assertIs(other == dealer, True)
            self.assertEqual(facts(other), facts(dealer))
            self.assertEqual((other.won(0), facts(other)), (dealer.won(0), facts(dealer)))

    def test_wins_at_the_bounds(self):
        for text in ("1 1 0", "1 1000000 1000000", "999999 1000000 3 / 1 1000000 0"):
            self.assertEqual(str(Dealer.read(text)), text)
        for wins in (0, 1, 1000000):
            self.assertEqual(Dealer.read(f"1 2 {wins}").wins, (wins,))
        for wins in (-1, 1000001, 10 ** 139):
            self.assertEqual(error_of(Dealer.read, f"1 2 {wins}"), ("BadText", 0, 2))


class TestBentTexts(unittest.TestCase):
    def read_error(self, items):
        """The item that is told for the text of these items."""
        told_error = error_of(Dealer.read, " ".join(items))
        self.assertIsNotNone(told_error, items)
        self.assertEqual(told_error[:2], ("BadText", 0))
        return told_error[2]

    def test_bent_at_each_item(self):
        for text in ("1 2 0", "1 2 1 / 1 4 2 / 1 4 0"):
            items = text.split(" ")
            for place in range(len(items)):
                for wrong in BENT + (() if place % 4 == 3 else ("/",)):
                    bent = items[:place] + [wrong] + items[place + 1:]
                    self.assertEqual(self.read_error(bent), place, bent)
                    self.assertEqual(self.read_error(bent + ["", "x"]), place)
                if place % 4 < 2:
                    self.assertEqual(self.read_error(items[:place] + ["0"] + items[place + 1:]), place)

    def test_missing_items(self):
        items = "1 2 1 / 1 4 2 / 1 4 0".split(" ")
        for many in range(1, len(items)):
            if many % 4 != 3:
                self.assertEqual(self.read_error(items[:many]), many)
            else:
                self.assertEqual(len(Dealer.read(" ".join(items[:many])).wins), (many + 1) // 4)
        self.assertEqual(self.read_error("1 2 / 1 4 0".split(" ")), 2)
        self.assertEqual(self.read_error("1 4 0 1 4 0".split(" ")), 3)

    def test_items_behind_the_last_one_and_double_blanks(self):
        items = "1 2 1 / 1 4 2".split(" ")
        for more in ("", "x", "0", "//"):
            self.assertEqual(self.read_error(items + [more]), 7)
            self.assertEqual(self.read_error(items + [more, more]), 7)
        self.assertEqual(self.read_error(items + ["/"]), 8)
        self.assertEqual(self.read_error(items + ["/", ""]), 8)
        for place in range(7):
            self.assertEqual(self.read_error(items[:place] + [""] + items[place:]), place)
        for text, item in (("", 0), (" ", 0), (" 1 2 0", 0), ("1 2 0 ", 3), ("1  2 0", 1), ("/", 0), ("1 2 0\n", 2)):
            self.assertEqual(error_of(Dealer.read, text), ("BadText", 0, item), text)

    def test_shares_that_are_not_reduced(self):
        for share in ("2 4", "2 2", "3 9", "500000 1000000", "1000000 1000000", "6 4", "4 6"):
            self.assertEqual(error_of(Dealer.read, f"{share} 0"), ("BadText", 0, 1))
            self.assertEqual(error_of(Dealer.read, f"1 4 0 / {share} 0"), ("BadText", 0, 5))
        self.assertEqual(Dealer.read("1 1 0").shares, ((1, 1),))

    def test_sums_that_come_above_1(self):
        self.assertEqual(error_of(Dealer.read, "2 1 0"), ("BadText", 0, 1))
        self.assertEqual(error_of(Dealer.read, "1 1 0 / 1 1000000 0"), ("BadText", 0, 5))
        self.assertEqual(error_of(Dealer.read, "1 2 0 / 1 4 0 / 1 4 0 / 1 1000000 0"), ("BadText", 0, 13))
        self.assertEqual(error_of(Dealer.read, "1 2 0 / 1 3 0 / 1 5 0 / 1 9 x"), ("BadText", 0, 9))
        for many in (2, 3, 30, 39):
            text = " / ".join([f"1 {many} 0"] * many)
            self.assertEqual(str(Dealer.read(text)), text)
            self.assertEqual(error_of(Dealer.read, text + f" / 1 {MOST} 0"), ("BadText", 0, 4 * many + 1))

    def test_forty_places_and_one_more(self):
        places = ["1 1000 3"] * 40
        self.assertEqual(Dealer.read(" / ".join(places)).wins, (3,) * 40)
        items = " / ".join(places).split(" ")
        self.assertEqual(self.read_error(items + ["/"]), 159)
        self.assertEqual(self.read_error(items + ["/", "1", "1000", "3"]), 159)
        self.assertEqual(self.read_error(items + ["x"]), 159)
        self.assertEqual(self.read_error(items[:158]), 158)

    def test_integers_beyond_their_bounds(self):
        for share, item in ((f"0 {MOST}", 0), (f"{MOST + 1} {MOST}", 0), ("-1 2", 0), (f"1 {MOST + 1}", 1), ("1 0", 1),
                            ("1 -2", 1), (f"1 {10 ** 139}", 1), (f"{10 ** 139} 1", 0)):
            self.assertEqual(error_of(Dealer.read, f"{share} 0"), ("BadText", 0, item), share)
        self.assertEqual(Dealer.read(f"1 {MOST} 0").shares, ((1, MOST),))
        self.assertEqual(Dealer.read(f"{MOST - 1} {MOST} 0").shares, ((MOST - 1, MOST),))

    def test_the_first_of_two_wrong_items(self):
        items = "1 2 1 / 1 4 2 / 1 4 0".split(" ")
        for place in range(11):
            for later in range(place + 1, 11):
                bent = list(items)
                bent[place] = bent[later] = "x"
                self.assertEqual(self.read_error(bent), place)

    def test_no_strings(self):
        for wrong in NO_STRINGS + (Dealer([(1, 2)]), b"1 2 0", ["1", "2", "0"]):
            self.assertEqual(error_of(Dealer.read, wrong), ("BadText", 0, 0))

    def test_short_time(self):
        self.assertEqual(error_of(Dealer.read, "1 " * 10000), ("BadText", 0, 3))
        self.assertEqual(error_of(Dealer.read, "1" * 20000), ("BadText", 0, 0))
        dealer = Dealer(GREAT)
        for place in range(40):
            dealer.won(place)
        for call, given in ((Dealer, (GREAT,)), (dealer.shares_now, ()), (dealer.factors_now, ()), (str, (dealer,)),
                            (Dealer.read, (str(dealer),)), (dealer.won, (0,))):
            self.assertLess(seconds_of(call, *given), 1)


if __name__ == "__main__":
    unittest.main()
