"""Papers and denials: parts, truth, equality."""

import unittest

from itertools import product

from duetickers.factors import Crowd, Kept
from duetickers.finders import Found, NotYet
from duetickers.names import Crowded, Names
from duetickers.papers import Denial, Paper, fixed
from duetickers.puzzles import Parted, Same
from tests.told import Odd

# All classes of papers that the program has, each with what stands above it, its module and its parameters.
CLASSES = (
    (Names, Paper, "names", ("names",)), (Crowded, Denial, "names", ("up", "down")), (Same, Paper, "puzzles", ("most",)),
    (Parted, Denial, "puzzles", ("given", "answer")), (Kept, Paper, "factors", ("up", "down")),
    (Crowd, Denial, "factors", ("tick", "many")), (Found, Paper, "finders", ("answer", "program", "step", "tick")),
    (NotYet, Denial, "finders", ("tick",)),
)
VALUES = (0, True, None, "say", [1, [2, []]], (3, [4]), {"a": [1]}, 1.5, 10 ** 400, [[["up"]]])


class TestPapers(unittest.TestCase):
    def test_example(self):
        note = Paper("note", [1, (2, [3])])
        told = [note.parts, bool(note), bool(Denial("no")), note == Denial("note", [1, (2, [3])]),
                fixed([[], {"a": [1]}])]
        self.assertEqual(told, [((1, (2, (3,))),), True, False, False, ((), {"a": [1]})])

    def test_word_and_parts(self):
        for made in (Paper, Denial):
            self.assertEqual((made("a").word, made("a").parts), ("a", ()))
            self.assertEqual((made(word="a").word, made(word="a").parts), ("a", ()))
            self.assertEqual(made("a", 1, [2, [3]], "x", None).parts, (1, (2, (3,)), "x", None))

    def test_names_paper(self):
        for paper in (Names(["0", ["1"]]), Names(names=("0", ("1",)))):
            self.assertEqual((paper.word, paper.parts, paper.names), ("names", (("0", ("1",)),), ("0", ("1",))))
            self.assertIs(bool(paper), True)
        for value in (None, 5, "01", {"a": [1]}, True):
            self.assertIs(Names(value).names, value)
            self.assertEqual(Names(value).parts, (value,))

    def test_crowded_paper(self):
        for paper in (Crowded([5], (4, [1])), Crowded(down=[4, [1]], up=(5,))):
            self.assertEqual((paper.word, paper.parts, paper.up, paper.down),
                             ("crowded", ((5,), (4, (1,))), (5,), (4, (1,))))
            self.assertIs(bool(paper), False)

    def test_classes(self):
        self.assertEqual([made.__bases__ for made in (Names, Crowded, Denial)], [(Paper,), (Denial,), (Paper,)])

    def test_truth(self):
        for parts in ((), (0,), (False,), (None, [])):
            self.assertIs(bool(Paper("", *parts)), True)
            self.assertIs(bool(Denial("yes", *parts)), False)

    def test_equal(self):
        self.assertIs(Paper("a", 1, [2]) == Paper("a", 1, (2,)), True)
        self.assertIs(Denial("a", 1, [2]) == Denial("a", 1, (2,)), True)
        self.assertIs(Names(["0"]) == Names(("0",)), True)
        self.assertIs(Crowded(5, 4) == Crowded(5, 4), True)
        self.assertIs(Paper("a", 1) == Paper("a", True), True)
        self.assertIs(Paper("a", 1) == Paper("a", 1.0), True)
        self.assertIs(Paper("a", 1) != Paper("a", 1), False)
        self.assertIs(Crowded(5, 4) != Crowded(5, 4), False)

    def test_unlike_words_and_parts(self):
        for made in (Paper, Denial):
            note = made("a", 1, [2])
            for other in (made("b", 1, [2]), made("a", 1, [3]), made("a", 2, [2]), made("a", 1), made("a", 1, [2], 3),
                          made("a"), made("A", 1, [2])):
                self.assertIs(note == other, False)
                self.assertIs(note != other, True)
        self.assertIs(Names(["0"]) == Names(["1"]), False)
        self.assertIs(Crowded(5, 4) == Crowded(4, 5), False)

    def test_unlike_classes(self):
        alike = (Paper("names", ["0"]), Denial("names", ["0"]), Names(["0"]), Crowded(["0"], 1), None, "names",
                 ("names", ("0",)), (("0",),), 5, True, object())
        for place, one in enumerate(alike[:4]):
            for other_place, other in enumerate(alike):
                self.assertIs(one == other, place == other_place)
                self.assertIs(one != other, place != other_place)
        self.assertIs(Denial("crowded", 5, 4) == Crowded(5, 4), False)
        self.assertIs(Crowded(5, 4) == Denial("crowded", 5, 4), False)
        self.assertIs(Paper("x") == Odd(), False)

    def test_a_foreign_class_of_the_same_name(self):
        for made in (Paper, Denial):
            other = type(made.__name__, (), {"word": "a", "parts": (1,)})()
            self.assertIs(made("a", 1).__eq__(other), False)

    def test_fixed(self):
        for value, wanted in (([], ()), ((), ()), ([1, [2, [3, []]]], (1, (2, (3, ())))), (([1], [2]), ((1,), (2,))),
                              ("ab", "ab"), (5, 5), (None, None), (True, True), ([True, 1.5], (True, 1.5)),
                              ([{"a": [1]}], ({"a": [1]},))):
            self.assertEqual(fixed(value), wanted)
            self.assertIs(type(fixed(value)), type(wanted))
        self.assertEqual(fixed(value=[1, [2]]), (1, (2,)))

    def test_other_values_stay_themselves(self):
        for value in ({"a": [1]}, {1}, object(), b"ab", range(3), Paper("a", [1])):
            self.assertIs(fixed(value), value)
            self.assertIs(fixed([value])[0], value)

    def test_what_is_passed_stays(self):
        inner = [3]
        rows = [1, (2, inner)]
        note, shape = Paper("note", rows), fixed(rows)
        inner.append(4)
        rows.append(5)
        self.assertEqual(rows, [1, (2, [3, 4]), 5])
        self.assertEqual((note.parts, shape), (((1, (2, (3,))),), (1, (2, (3,)))))

    def test_deep(self):
        deep, wanted = 7, 7
        for _ in range(30):
            deep, wanted = [deep], (wanted,)
        self.assertEqual(fixed(deep), wanted)
        self.assertEqual(Paper("deep", deep).parts, (wanted,))

    def test_methods_stand_in_the_classes(self):
        for made in (Paper, Denial):
            self.assertIn("__eq__", vars(made))
            self.assertIn("__init__", vars(made))


class TestAllClasses(unittest.TestCase):
    def test_where_they_stand(self):
        for made, above, module, fields in CLASSES:
            self.assertEqual((made.__bases__, made.__module__), ((above,), f"duetickers.{module}"))
        self.assertEqual(set(Paper.__subclasses__()) & {made for made, *_ in CLASSES},
                         {made for made, above, *_ in CLASSES if above == Paper})

    def test_any_parts_by_place_and_by_name(self):
        for made, above, module, fields in CLASSES:
            for parts in product(VALUES, repeat=min(len(fields), 2)):
                parts = (parts * 2)[:len(fields)]
                wanted = tuple(map(fixed, parts))
                for paper in (made(*parts), made(**dict(reversed(list(zip(fields, parts)))))):
                    self.assertEqual(tuple(getattr(paper, field) for field in fields), wanted)
                    self.assertEqual((paper.parts, paper.word), (wanted, made.__name__.lower()))
                    self.assertIs(type(paper.parts), tuple)
                    self.assertIs(bool(paper), above == Paper)

    def test_what_is_passed_changes_behind(self):
        for made, above, module, fields in CLASSES:
            rows = [[1, [2]] for _ in fields]
            paper = made(*rows)
            for row in rows:
                row[1].append(3)
                row.append(4)
            self.assertEqual(paper.parts, ((1, (2,)),) * len(fields))
            self.assertEqual(rows, [[1, [2, 3], 4]] * len(fields))

    def test_equal_to_papers_of_their_own_class_alone(self):
        papers = [made(*[5] * len(fields)) for made, above, module, fields in CLASSES]
        bases = [base(paper.word, *paper.parts) for paper in papers for base in (Paper, Denial)]
        for place, one in enumerate(papers):
            for other_place, other in enumerate(papers + bases):
                self.assertIs(one == other, place == other_place)
                self.assertIs(one != other, place != other_place)
            for change in range(len(one.parts)):
                parts = list(one.parts)
                parts[change] = 6
                self.assertIs(one == CLASSES[place][0](*parts), False)

    def test_wrong_numbers_of_parts(self):
        for made, above, module, fields in CLASSES:
            self.assertRaises(TypeError, made, *[1] * (len(fields) + 1))
            self.assertRaises(TypeError, made, *[1] * (len(fields) - 1))


if __name__ == "__main__":
    unittest.main()
