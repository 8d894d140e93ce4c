"""Desks: finders that go on tick by tick."""

import unittest
from random import Random

from duetickers.desks import Desk
from duetickers.finders import Found, NotYet, find
from duetickers.puzzles import Puzzle
from duetickers.wholes import pair_in
from tests.tongue_list import ALL, EARLY, LONG, PLAIN, QUICK, SHORT, SPARSE, STEEP, of_lengths
from tests.told import NO_INTEGERS, NO_LISTS, Odd, error_of, seconds_of

BOUND = 10 ** 18
SAME = Puzzle("a n =")
NEVER = Puzzle("a a <")
CHECKS = ("a n =", "a a <", "a 1 =", "0 1 <", "a 2 rem 1 = n a < and", "a -1 =")
NO_TONGUES = NO_LISTS + (PLAIN.names, str(PLAIN))
NO_PUZZLES = (None, True, 0, "a n =", ["a", "n", "="], object(), Odd(), Puzzle)


def facts(desk):
    """All that is told of a desk."""
    return (desk.tongue, desk.puzzle, desk.given, desk.tick, desk.found, desk.coming(), str(desk))


class TestExamples(unittest.TestCase):
    def test_desk(self):
        desk = Desk(PLAIN, SAME, 0)
        found = [desk.go(53), desk.found, desk.coming(), desk.go(100), desk.tick, desk.coming(), desk.go(5)]
        self.assertEqual(found, [53, None, (("say",), 4), 1, 54, None, 0])
        found = [desk.found == Found(0, ["say"], 4, 54), str(desk)]
        self.assertEqual(found, [True, "000 001 010 011 100 101 110 111 / a n = / 0 54"])


class TestGo(unittest.TestCase):
    def test_against_find_for_each_tick_and_the_pairs(self):
        for tongue in (PLAIN, SHORT, EARLY, QUICK):
            for text in CHECKS:
                desk, puzzle = Desk(tongue, Puzzle(text), 3), Puzzle(text)
                for tick in range(1, 101):
                    if desk.found is None:
                        self.assertEqual(desk.coming(), pair_in(tongue, tick))
                        self.assertEqual((desk.go(1), desk.tick), (1, tick))
                    told = find(tongue, puzzle, 3, tick)
                    self.assertEqual(desk.found, told if told else None)
                    self.assertEqual(desk.tick, told.tick)

    def test_stops_of_many_ticks(self):
        luck, answers = Random(140), 0
        for tongue in ALL:
            for text in CHECKS:
                desk, last = Desk(tongue, Puzzle(text), 2), find(tongue, Puzzle(text), 2, 20000)
                while desk.tick < 20000 and desk.found is None:
                    ahead, many = desk.tick, luck.choice((0, 1, 2, 40, 700, 5000))
                    many = min(many, 20000 - ahead)
                    wanted = min(ahead + many, last.tick)
                    self.assertEqual(desk.coming(), pair_in(tongue, ahead + 1))
                    self.assertEqual((desk.go(many), desk.tick), (wanted - ahead, wanted))
                answers += bool(last)
                self.assertEqual((desk.found, desk.tick), (last if last else None, last.tick))
        self.assertGreater(answers, 15)

    def test_nothing_goes_on_behind_an_answer(self):
        desk = Desk(PLAIN, SAME, 0)
        desk.go(54)
        before = facts(desk)
        self.assertEqual(before[3:6], (54, Found(0, ("say",), 4, 54), None))
        for many in (0, 1, 5, 19946):
            self.assertEqual(desk.go(many), 0)
            self.assertEqual(facts(desk), before)

    def test_stops_just_at_the_answer(self):
        for many in (53, 54, 55, 20000):
            desk = Desk(PLAIN, SAME, 0)
            self.assertEqual(desk.go(many), min(many, 54))
            self.assertEqual(desk.found is None, many < 54)
        desk = Desk(PLAIN, SAME, 0)
        self.assertEqual([desk.go(0), desk.tick, desk.coming()], [0, 0, ((), 1)])

    def test_to_tick_20000_and_one_more(self):
        desk = Desk(PLAIN, NEVER, 0)
        self.assertEqual(desk.go(many=20000), 20000)
        self.assertEqual((desk.tick, desk.found, desk.coming()), (20000, None, pair_in(PLAIN, 20001)))
        self.assertEqual(desk.go(0), 0)
        for many in (1, 2, 20000):
            self.assertEqual(error_of(desk.go, many), ("TooMany", "ticks", 20000))
        self.assertEqual((desk.tick, desk.found), (20000, None))
        desk = Desk(PLAIN, NEVER, 0)
        self.assertEqual(desk.go(19999), 19999)
        before = facts(desk)
        self.assertEqual(error_of(desk.go, 2), ("TooMany", "ticks", 20000))
        self.assertEqual(facts(desk), before)
        self.assertEqual((desk.go(1), desk.tick), (1, 20000))

    def test_one_more_behind_an_answer(self):
        desk = Desk(PLAIN, SAME, 0)
        desk.go(100)
        self.assertEqual(error_of(desk.go, 19947), ("TooMany", "ticks", 20000))
        self.assertEqual(error_of(desk.go, 20000), ("TooMany", "ticks", 20000))
        self.assertEqual(desk.go(19946), 0)
        self.assertEqual((desk.tick, desk.found), (54, Found(0, ("say",), 4, 54)))

    def test_one_more_ahead_of_an_answer(self):
        desk = Desk(PLAIN, SAME, 0)
        desk.go(10)
        self.assertEqual(error_of(desk.go, 19991), ("TooMany", "ticks", 20000))
        self.assertEqual((desk.tick, desk.found), (10, None))
        self.assertEqual(desk.go(19990), 44)

    def test_two_desks_side_by_side(self):
        one, other = Desk(PLAIN, SAME, 0), Desk(PLAIN, SAME, 0)
        one.go(40)
        self.assertEqual((other.tick, other.coming()), (0, ((), 1)))
        other.go(53)
        self.assertEqual((one.tick, one.found, other.found), (40, None, None))
        self.assertEqual((one.go(100), other.go(0), other.tick), (14, 0, 53))
        self.assertEqual((other.found, other.go(1), other.found), (None, 1, one.found))

    def test_asking_changes_nothing(self):
        desk, other = Desk(SHORT, SAME, 4), Desk(SHORT, SAME, 4)
        while other.found is None and other.tick < 3000:
            self.assertEqual(other.go(7), desk.go(7))
            for _ in range(3):
                self.assertEqual(facts(desk), facts(desk))
            self.assertEqual(facts(desk), facts(other))

    def test_wrong_many(self):
        desk = Desk(PLAIN, SAME, 0)
        desk.go(20)
        for wrong in NO_INTEGERS + (-1, 20001, 10 ** 30):
            self.assertEqual(error_of(desk.go, wrong), ("BadNumber", "many"))
            self.assertEqual(desk.tick, 20)


class TestDesk(unittest.TestCase):
    def test_new_ones(self):
        for tongue in ALL:
            for given in (0, 7, BOUND, -BOUND):
                desk = Desk(given=given, puzzle=SAME, tongue=tongue)
                self.assertEqual((desk.tongue, desk.puzzle, desk.given, desk.tick, desk.found), (tongue, SAME, given, 0, None))
                self.assertEqual(desk.coming(), ((), 1))

    def test_wrong_arguments(self):
        for wrong in NO_TONGUES:
            self.assertEqual(error_of(Desk, wrong, SAME, 0), ("BadTongue", "tongue"))
        for wrong in NO_PUZZLES:
            self.assertEqual(error_of(Desk, PLAIN, wrong, 0), ("BadPuzzle", "puzzle"))
        for wrong in NO_INTEGERS + (BOUND + 1, -BOUND - 1):
            self.assertEqual(error_of(Desk, PLAIN, SAME, wrong), ("BadNumber", "given"))
        given = [PLAIN, SAME, 0]
        for place, wanted in ((2, ("BadNumber", "given")), (1, ("BadPuzzle", "puzzle")), (0, ("BadTongue", "tongue"))):
            given[place] = None
            self.assertEqual(error_of(Desk, *given), wanted)

    def test_equal(self):
        desks = []
        for tongue in (PLAIN, SHORT):
            for puzzle in (SAME, NEVER):
                for given in (0, 1):
                    for many in (0, 1, 53, 54, 55):
                        desk = Desk(tongue, puzzle, given)
                        desk.go(many)
                        desks.append(desk)
        for one in desks:
            for other in desks:
                alike = (one.tongue.names, one.puzzle.text, one.given, one.tick) == \
                    (other.tongue.names, other.puzzle.text, other.given, other.tick)
                self.assertIs(one == other, alike)
                self.assertIs(one != other, not alike)
        for other in (None, str(desks[0]), PLAIN, SAME, 0, object()):
            self.assertIs(desks[0] == other, False)
        self.assertIs(desks[0].__eq__(Odd()), False)

    def test_equal_ones_by_other_stops(self):
        one, other = Desk(SHORT, NEVER, 3), Desk(SHORT, NEVER, 3)
        for many in (1, 0, 99, 400):
            one.go(many)
        other.go(500)
        self.assertIs(one == other, True)
        one, other = Desk(PLAIN, SAME, 0), Desk(PLAIN, SAME, 0)
        one.go(54)
        other.go(2000)
        self.assertIs(one == other, True)

    def test_methods_stand_in_the_class(self):
        for method in ("__init__", "__eq__", "__str__", "go", "coming", "read"):
            self.assertIn(method, vars(Desk))

    def test_short_time(self):
        forty = Puzzle("a a =" + " not" * 37)
        for tongue in ALL + (of_lengths([1, 2, 8, 8, 8, 8, 8, 3]), of_lengths([8, 8, 8, 8, 8, 8, 8, 1])):
            self.assertLess(seconds_of(self.tick_by_tick, Desk(tongue, NEVER, 3)), 5)
            for puzzle in (NEVER, forty):
                desk = Desk(tongue, puzzle, 3)
                self.assertLess(seconds_of(desk.go, 20000), 3)
                self.assertLess(seconds_of(Desk.read, str(desk)), 3)

    def tick_by_tick(self, desk):
        """Go to tick 20,000 one tick at a time, and ask each time what comes."""
        for _ in range(20000):
            desk.coming()
            desk.go(1)
        self.assertEqual((desk.tick, desk.found), (20000, None))
        self.assertEqual(desk.coming(), pair_in(desk.tongue, 20001))


class TestPapers(unittest.TestCase):
    def test_found_is_what_find_tells(self):
        for tongue in (PLAIN, SHORT, SPARSE, LONG, STEEP):
            for text in CHECKS:
                desk = Desk(tongue, Puzzle(text), 1)
                desk.go(9000)
                paper = find(tongue, Puzzle(text), 1, 9000)
                self.assertEqual(desk.found, paper if paper else None)
                self.assertEqual(NotYet(desk.tick) if desk.found is None else desk.found, paper)


if __name__ == "__main__":
    unittest.main()
