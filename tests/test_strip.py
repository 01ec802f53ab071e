import itertools
import unittest

from combstrip.book import Book
from combstrip.shapes import shapes_at
from combstrip.strip import fill_strip
from helper import book_of, by_other_deeds, combs_of, first_layings, full_of_deeds, shape_of, shapes_of_plank
from helper import some_combs

# Combs whose strip is filled, and all that is told of it.
FILLED = [
    ({"a": [0]}, (0, 1, [(0, "a")])),
    ({"a": [0, 7]}, (0, 14, [(0, "a"), (1, "a"), (2, "a"), (3, "a"), (4, "a"), (5, "a"), (6, "a")])),
    ({"a": [0, 1, 2, 3, 4, 5, 6, 7]}, (0, 8, [(0, "a")])),
    ({"a": [0, 2]}, (0, 4, [(0, "a"), (1, "a")])),
    # Of two combs with the same teeth the one that is first by name is laid.
    ({"ba": [0, 2], "b": [0, 2]}, (0, 4, [(0, "b"), (1, "b")])),
    # A comb that is ahead by name goes first even where it makes the stretch longer.
    ({"a": [0, 1, 3], "b": [0]}, (0, 4, [(0, "a"), (2, "b")])),
    # The first comb can be laid, but then the place 1 can't be covered.
    ({"a": [0, 2, 3], "b": [0, 1]}, (0, 2, [(0, "b")])),
    ({"a": [0, 2, 3], "b": [0, 1, 3]}, (0, 6, [(0, "b"), (2, "a")])),
    # The shape 0 never comes again.
    ({"a": [0, 1, 3], "b": [0, 3]}, (1, 2, [(0, "a"), (2, "b")])),
    ({"a": [0, 1, 2, 4], "b": [0, 3]}, (2, 2, [(0, "a"), (3, "b")])),
    ({"a": [0, 1, 4], "b": [0, 1, 5]}, (1, 3, [(0, "a"), (2, "b")])),
    ({"a": [0, 1, 5], "b": [0, 4]}, (10, 3, [(0, "a"), (2, "a"), (4, "b"), (6, "b"), (9, "b"), (11, "a")])),
]

# Combs whose strip gets stuck, and all that is told of it.
STUCK = [
    ({}, (0, [[0], []])),
    ({"a": [0, 2, 3]}, (1, [[0], [6], []])),
    ({"a": [0, 1, 3]}, (2, [[0], [5], [2], []])),
    ({"b": [0, 2, 3], "a": [0, 2, 3, 4]}, (1, [[0], [6, 14], []])),
    ({"a": [0, 3, 5], "b": [0, 1, 3, 4]}, (8, [[0], [13, 20], [6, 30], [23], [11], [5], [2], [21], [10], []])),
]

# Combs with long answers: far from the left end before they come again, or before they get stuck.
LONG_ONES = [
    {"a": [0, 3, 4, 5, 7], "b": [0, 1, 4, 6, 7], "c": [0, 7], "d": [0, 7]},
    {"a": [0, 2, 5, 6, 7], "b": [0, 1, 3], "c": [0, 7], "d": [0, 2, 4, 5], "e": [0, 1, 7]},
    {"a": [0, 2, 3, 5, 6], "b": [0, 2, 3, 5], "c": [0, 2, 6], "d": [0, 3, 7], "e": [0, 3, 5, 6]},
    {"a": [0, 1, 4, 7], "b": [0, 5, 6], "c": [0, 1, 2, 5], "d": [0, 2, 3, 4, 6], "e": [0, 1, 6]},
    {"a": [0, 1, 4, 6], "b": [0, 2, 6, 7], "c": [0, 7]},
    {"a": [0, 1, 3], "b": [0, 1, 5, 6, 7], "c": [0, 1, 3, 5], "d": [0, 2, 7]},
    {"a": [0, 5, 6, 7], "b": [0, 1, 7], "c": [0, 3, 4, 5, 7]},
    {"a": [0, 3, 7], "b": [0, 2, 6]},
]


class StripCase(unittest.TestCase):
    def check_filled(self, combs, answer):
        word, start, span, layings = answer
        far = start + span
        self.assertEqual(word, "filled")
        self.assertEqual([type(start), type(span), type(layings)], [int, int, list])
        self.assertTrue(0 <= start < far <= 128)
        self.assertEqual(set(type(laying) for laying in layings), {tuple})
        self.assertTrue(all(0 <= place < far for place, name in layings))
        self.assertEqual(layings, sorted(layings))
        # Three times round, the told stretch is still the first filling.
        again = [(place, name) for place, name in layings if place >= start]
        filling = layings + [(place + span * turn, name) for turn in (1, 2, 3) for place, name in again]
        self.check_covered(combs, filling, far + 3 * span)
        self.assertEqual(filling, first_layings(combs, far + 3 * span))
        self.check_start_and_span(combs, layings, start, far)

    def check_covered(self, combs, layings, upto):
        under = [place + tooth for place, name in layings for tooth in combs[name]]
        self.assertEqual(len(set(under)), len(under))
        self.assertLessEqual(set(range(upto)), set(under))

    def check_start_and_span(self, combs, layings, start, far):
        shapes = []
        for here in range(far + 1):
            under = [place + tooth for place, name in layings if place < here for tooth in combs[name]]
            shapes.append(shape_of(under, here))
        self.assertEqual(len(set(shapes[:-1])), far)
        self.assertEqual(shapes.index(shapes[-1]), start)

    def check_stuck(self, combs, answer):
        word, place, rows = answer
        self.assertEqual(word, "stuck")
        self.assertEqual([type(place), type(rows)], [int, list])
        self.assertTrue(0 <= place <= 127)
        self.assertEqual(len(rows), place + 2)
        self.assertEqual(rows[0], [0])
        self.assertEqual(rows[-1], [])
        self.assertNotIn([], rows[:-1])
        for here, row in enumerate(rows):
            self.assertIs(type(row), list)
            self.assertEqual(row, shapes_of_plank(combs, here))
            self.assertEqual(row, shapes_at(book_of(combs), here))

    def check(self, combs):
        answer = fill_strip(book_of(combs))
        self.assertIs(type(answer), tuple)
        with self.subTest(combs=combs):
            if first_layings(combs, 1) is None:
                self.assertEqual(len(answer), 3)
                self.check_stuck(combs, answer)
            else:
                self.assertEqual(len(answer), 4)
                self.check_filled(combs, answer)
        return answer


class TestFillStrip(StripCase):
    def test_strips_that_are_filled(self):
        for combs, wanted in FILLED:
            with self.subTest(combs=combs):
                self.assertEqual(fill_strip(book_of(combs)), ("filled",) + wanted)
            self.check(combs)

    def test_strips_that_are_stuck(self):
        for combs, wanted in STUCK:
            with self.subTest(combs=combs):
                self.assertEqual(fill_strip(book_of(combs)), ("stuck",) + wanted)
            self.check(combs)

    def test_the_empty_book(self):
        self.assertEqual(fill_strip(Book()), ("stuck", 0, [[0], []]))
        book = book_of({"a": [0]})
        book.drop("a")
        self.assertEqual(fill_strip(book), ("stuck", 0, [[0], []]))

    def test_strips_with_long_answers(self):
        told = [self.check(combs)[:3] for combs in LONG_ONES]
        filled = [("filled", 35, 18), ("filled", 0, 42), ("filled", 1, 24), ("filled", 0, 40), ("filled", 0, 64)]
        self.assertEqual(told[:5], filled)
        self.assertEqual([answer[:2] for answer in told[5:]], [("stuck", 26), ("stuck", 37), ("stuck", 25)])

    def test_the_names_and_not_the_teeth_tell_which_filling_is_first(self):
        self.assertEqual(fill_strip(book_of({"a": [0], "b": [0, 2]})), ("filled", 0, 1, [(0, "a")]))
        self.assertEqual(fill_strip(book_of({"b": [0], "a": [0, 2]})), ("filled", 0, 4, [(0, "a"), (1, "a")]))
        # A name goes ahead of every longer one that begins with it.
        self.assertEqual(fill_strip(book_of({"ab": [0], "a": [0, 1]})), ("filled", 0, 2, [(0, "a")]))
        self.assertEqual(fill_strip(book_of({"ab": [0], "b": [0, 1]})), ("filled", 0, 1, [(0, "ab")]))

    def test_every_comb_alone(self):
        words = set()
        for size in range(8):
            for behind in itertools.combinations(range(1, 8), size):
                words.add(self.check({"a": [0] + list(behind)})[0])
        self.assertEqual(words, {"filled", "stuck"})

    def test_many_books(self):
        words = []
        for seed in range(150):
            words.append(self.check(some_combs(seed, most_combs=4, most_teeth=5))[0])
        self.assertGreater(words.count("filled"), 20)
        self.assertGreater(words.count("stuck"), 20)

    def test_books_of_eight_combs(self):
        names = ["a", "ab", "b", "ba", "oak", "rake", "zz", "zzzzzz"]
        for first in range(4):
            teeth = [[0] + [tooth for tooth in range(1, 8) if (tooth * (first + at + 2)) % 5 < 2] for at in range(8)]
            self.check(dict(zip(names, teeth)))


class TestWhatTheAnswerHangsOn(StripCase):
    def test_another_order(self):
        for combs in LONG_ONES:
            wanted = fill_strip(book_of(combs))
            for order in itertools.islice(itertools.permutations(combs), 0, 120, 7):
                turned = {name: combs[name][::-1] for name in order}
                self.assertEqual(fill_strip(book_of(turned)), wanted)

    def test_other_deeds(self):
        for combs in LONG_ONES:
            wanted = fill_strip(book_of(combs))
            book = by_other_deeds(combs)
            self.assertEqual(combs_of(book), combs)
            self.assertEqual(fill_strip(book), wanted)
            book.put("aa", [0])
            self.assertNotEqual(fill_strip(book), wanted)
            book.undo()
            self.assertEqual(fill_strip(book), wanted)

    def test_a_book_full_of_deeds(self):
        book = full_of_deeds(book_of(LONG_ONES[-1]))
        self.assertEqual((combs_of(book), book.deeds()), (LONG_ONES[-1], 300))
        self.assertEqual(fill_strip(book), fill_strip(book_of(LONG_ONES[-1])))

    def test_a_question_changes_nothing(self):
        for combs in LONG_ONES:
            book = book_of(combs)
            wanted = fill_strip(book)
            shapes_at(book, 30)
            self.assertEqual(fill_strip(book), wanted)
            self.assertEqual((combs_of(book), book.deeds()), (combs, len(combs)))

    def test_told_lists_are_the_askers_own(self):
        for combs in LONG_ONES + [{}]:
            book = book_of(combs)
            wanted = fill_strip(book_of(combs))
            told = fill_strip(book)[-1]
            for inner in told:
                if isinstance(inner, list):
                    inner.append("changed")
            told.append("changed")
            self.assertEqual(fill_strip(book), wanted)
            self.assertEqual(fill_strip(book_of(combs)), wanted)
            self.assertEqual(combs_of(book), combs)

    def test_no_two_rows_are_one_list(self):
        rows = fill_strip(book_of(LONG_ONES[-1]))[2]
        self.assertEqual(len(set(id(row) for row in rows)), len(rows))

    def test_two_books_side_by_side(self):
        one, other = book_of({"a": [0, 1, 3], "b": [0, 3]}), book_of({"a": [0, 1, 3]})
        for ask in range(2):
            self.assertEqual(fill_strip(one), ("filled", 1, 2, [(0, "a"), (2, "b")]))
            self.assertEqual(fill_strip(other), ("stuck", 2, [[0], [5], [2], []]))


if __name__ == "__main__":
    unittest.main()
