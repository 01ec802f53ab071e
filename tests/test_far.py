import itertools
import unittest

from combstrip import errors
from combstrip.book import Book
from combstrip.far import comb_over_line, comb_over_strip
from combstrip.line import fill_line
from combstrip.strip import fill_strip
from helper import book_of, some_combs

FAR = 10 ** 18

# Combs whose strip is filled: from 0 on again and again, or only from a later place on.
STRIPS = [
    {"a": [0]},
    {"a": [0, 7]},
    {"a": [0, 2]},
    {"a": [0, 1, 2, 3, 4, 5, 6, 7]},
    {"a": [0, 2, 3], "b": [0, 1, 3]},
    {"a": [0, 1, 3], "b": [0, 3]},
    {"a": [0, 1, 2, 4], "b": [0, 3]},
    {"a": [0, 1, 4], "b": [0, 1, 5]},
    {"a": [0, 1, 5], "b": [0, 4]},
    {"a": [0, 2, 7], "b": [0, 2, 5]},
    {"a": [0, 1, 4, 6], "b": [0, 2, 6, 7], "c": [0, 7]},
    {"a": [0, 1, 3, 6, 7], "b": [0, 1, 2, 4, 5, 7], "c": [0, 7], "d": [0, 1, 2, 4, 5]},
]

# Combs whose line is filled, but not their strip.
LINES = [{"a": [0, 1, 5]}, {"a": [0, 5, 7]}, {"a": [0, 4, 5]}, {"a": [0, 2, 7]}]

STUCK = [{}, {"a": [0, 1, 3]}, {"a": [0, 2, 3]}, {"a": [0, 2, 6], "b": [0, 4, 7]}]


class FarCase(unittest.TestCase):
    def refused(self, refusal, ask, combs, place):
        with self.subTest(ask=ask.__name__, combs=combs, place=place):
            with self.assertRaises(errors.CombError) as caught:
                ask(book_of(combs), place)
            self.assertIs(type(caught.exception), refusal)

    def check_stretch(self, ask, combs, first, last):
        """The layings over the places from first to last, each told for just the places under its teeth."""
        book = book_of(combs)
        told = {}
        for place in range(first, last + 1):
            laying = ask(book, place)
            self.assertIs(type(laying), tuple)
            self.assertEqual([type(value) for value in laying], [int, str])
            told.setdefault(laying, []).append(place)
        for (start, name), places in told.items():
            under = [start + tooth for tooth in sorted(combs[name])]
            self.assertEqual(places, [place for place in under if first <= place <= last], (combs, start, name))
        return sorted(told)

    def check_strip(self, combs, first, last):
        """The told layings are those of the filling that fill_strip tells, moved where they lie beyond it."""
        word, start, span, layings = fill_strip(book_of(combs))
        for place, name in self.check_stretch(comb_over_strip, combs, first, last):
            turns = max(0, (place - start) // span)
            self.assertIn((place - turns * span, name), layings)

    def check_line(self, combs, first, last):
        word, span, shapes, layings = fill_line(book_of(combs))
        for place, name in self.check_stretch(comb_over_line, combs, first, last):
            self.assertIn((place % span, name), layings)

    def check_many_books(self, ask, fill, check, stretches):
        filled = 0
        for seed in range(120):
            combs = some_combs(seed, most_combs=4, most_teeth=5)
            if fill(book_of(combs))[0] == "stuck":
                self.refused(errors.NoFilling, ask, combs, 0)
                continue
            filled += 1
            for first, last in stretches:
                check(combs, first, last)
        self.assertGreater(filled, 20)


class TestCombOverStrip(FarCase):
    def test_near_places(self):
        for combs in STRIPS:
            word, start, span, layings = fill_strip(book_of(combs))
            self.check_strip(combs, 0, start + 3 * span + 20)

    def test_all_layings_of_the_strip_are_met(self):
        for combs in STRIPS:
            word, start, span, layings = fill_strip(book_of(combs))
            far = start + span
            met = self.check_stretch(comb_over_strip, combs, 0, far + span + 7)
            self.assertEqual([laying for laying in met if laying[0] < far], layings)
            behind = [(place + span, name) for place, name in layings if place >= start]
            self.assertEqual([laying for laying in met if far <= laying[0] < far + span], behind)

    def test_far_places(self):
        for combs in STRIPS:
            self.check_strip(combs, FAR - 150, FAR)
            for middle in [1000, 10 ** 6, 10 ** 12]:
                self.check_strip(combs, middle, middle + 40)

    def test_answers_by_hand(self):
        book = book_of({"a": [0, 2]})
        wanted = [(0, "a"), (1, "a"), (0, "a"), (1, "a"), (4, "a"), (5, "a"), (4, "a"), (5, "a")]
        self.assertEqual([comb_over_strip(book, place) for place in range(8)], wanted)
        self.assertEqual(comb_over_strip(book, FAR), (FAR, "a"))
        self.assertEqual(comb_over_strip(book, FAR - 1), (FAR - 3, "a"))
        self.assertEqual(comb_over_strip(book_of({"a": [0]}), FAR), (FAR, "a"))
        # The a at 0 never comes again: behind it lies a b at every even place.
        book = book_of({"a": [0, 1, 3], "b": [0, 3]})
        self.assertEqual(fill_strip(book), ("filled", 1, 2, [(0, "a"), (2, "b")]))
        wanted = [(0, "a"), (0, "a"), (2, "b"), (0, "a"), (4, "b"), (2, "b"), (6, "b"), (4, "b")]
        self.assertEqual([comb_over_strip(book, place) for place in range(8)], wanted)
        self.assertEqual(comb_over_strip(book, FAR), (FAR, "b"))
        self.assertEqual(comb_over_strip(book, FAR - 1), (FAR - 4, "b"))

    def test_places_out_of_bounds(self):
        for combs in STRIPS[:2] + LINES[:1] + STUCK:
            for place in [-1, FAR + 1, -2, FAR + 2, -FAR, 10 ** 40, -10 ** 40]:
                self.refused(errors.BadPlace, comb_over_strip, combs, place)

    def test_no_filling(self):
        for combs in LINES + STUCK:
            for place in [0, 1, 200, FAR - 1, FAR]:
                self.refused(errors.NoFilling, comb_over_strip, combs, place)

    def test_many_books(self):
        self.check_many_books(comb_over_strip, fill_strip, self.check_strip, [(0, 30), (FAR - 20, FAR)])


class TestCombOverLine(FarCase):
    def test_near_places(self):
        for combs in STRIPS + LINES:
            span = fill_line(book_of(combs))[1]
            self.check_line(combs, -2 * span - 20, 2 * span + 20)

    def test_all_layings_of_the_line_are_met_where_they_are_told(self):
        for combs in STRIPS + LINES:
            word, span, shapes, layings = fill_line(book_of(combs))
            met = self.check_stretch(comb_over_line, combs, -span - 8, 2 * span + 8)
            for turn in [-1, 0, 1]:
                here = [(place - turn * span, name) for place, name in met if place // span == turn]
                self.assertEqual(here, layings)

    def test_far_places(self):
        for combs in STRIPS + LINES:
            self.check_line(combs, FAR - 150, FAR)
            self.check_line(combs, -FAR, -FAR + 150)
            for middle in [-10 ** 12, -10 ** 6, 10 ** 6, 10 ** 12]:
                self.check_line(combs, middle, middle + 40)

    def test_the_edges(self):
        book = book_of({"a": [0]})
        for place in [-FAR, -1, 0, 1, FAR]:
            self.assertEqual(comb_over_line(book, place), (place, "a"))

    def test_a_comb_may_lie_below_the_least_place_that_can_be_asked_about(self):
        told = [comb_over_line(book_of(combs), -FAR) for combs in STRIPS + LINES]
        self.assertGreater(len([place for place, name in told if place < -FAR]), 3)
        self.assertTrue(all(-FAR - 7 <= place <= -FAR for place, name in told))

    def test_places_out_of_bounds(self):
        for combs in STRIPS[:2] + LINES[:1] + STUCK:
            for place in [FAR + 1, -FAR - 1, FAR + 2, -FAR - 2, 10 ** 40, -10 ** 40]:
                self.refused(errors.BadPlace, comb_over_line, combs, place)

    def test_no_filling(self):
        for combs in STUCK:
            for place in [-FAR, -1, 0, 1, FAR]:
                self.refused(errors.NoFilling, comb_over_line, combs, place)

    def test_every_comb_alone(self):
        for size in range(8):
            for behind in itertools.combinations(range(1, 8), size):
                combs = {"a": [0] + list(behind)}
                if fill_line(book_of(combs))[0] == "filled":
                    self.check_line(combs, -20, 20)
                else:
                    self.refused(errors.NoFilling, comb_over_line, combs, 0)

    def test_many_books(self):
        self.check_many_books(comb_over_line, fill_line, self.check_line, [(-15, 15), (-FAR, -FAR + 20)])


class TestTheEmptyBook(FarCase):
    def test_the_empty_book(self):
        for ask in [comb_over_strip, comb_over_line]:
            self.assertRaises(errors.NoFilling, ask, Book(), 0)
            self.assertRaises(errors.BadPlace, ask, Book(), FAR + 1)


if __name__ == "__main__":
    unittest.main()
