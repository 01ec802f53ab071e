import itertools
import math
import unittest

from combstrip import errors
from combstrip.book import Book
from combstrip.lengths import fits_flush, flush_lengths
from combstrip.shapes import shapes_at
from combstrip.strip import fill_strip
from helper import book_of, rows_covered, some_combs

THREE, FOUR, FIVE, SIX, SEVEN, EIGHT = [list(range(size)) for size in (3, 4, 5, 6, 7, 8)]

# Combs, and all that is told of their lengths.
TOLD = [
    ({}, (0, [0], 0)),
    ({"a": [0, 1, 3]}, (0, [0], 0)),
    # The strip can be filled, but no plank with two ends.
    ({"a": [0, 2, 7], "b": [0, 2, 5]}, (0, [0], 0)),
    ({"a": [0]}, (0, [0], 1)),
    ({"a": [0], "b": [0, 7]}, (0, [0], 1)),
    ({"a": [0, 1]}, (0, [0], 2)),
    ({"a": [0, 2]}, (0, [0], 4)),
    ({"a": [0, 7]}, (0, [0], 14)),
    ({"a": EIGHT}, (0, [0], 8)),
    # A comb that fits nowhere, or makes no further length.
    ({"a": [0, 1], "b": [0, 1, 2, 4]}, (0, [0], 2)),
    ({"a": [0, 1], "b": [0, 2]}, (0, [0], 2)),
    ({"a": [0, 1], "b": THREE}, (1, [0], 1)),
    ({"a": THREE, "b": FIVE}, (7, [0, 3, 5, 6], 1)),
    ({"a": FOUR, "b": FIVE, "c": SEVEN}, (6, [0, 4, 5], 1)),
    ({"a": SIX, "b": EIGHT}, (10, [0, 6, 8], 2)),
    ({"a": [0, 3], "b": EIGHT}, (10, [0, 6, 8], 2)),
    ({"a": SIX, "b": THREE}, (0, [0], 3)),
    (
        {"a": SEVEN, "b": EIGHT},
        (41, [0, 7, 8, 14, 15, 16, 21, 22, 23, 24, 28, 29, 30, 31, 32, 35, 36, 37, 38, 39, 40], 1),
    ),
    ({"a": [0, 3], "b": [0, 1, 3]}, (19, [0, 5, 6, 10, 11, 12, 15, 16, 17, 18], 1)),
]

# Combs with a great upto or a great step, and the two.
GREAT = [
    ({"a": [0, 1, 6], "b": [0, 2, 5, 6], "c": [0, 5, 6, 7]}, (1169, 1)),
    ({"a": [0, 4, 6], "b": [0, 3, 7], "c": [0, 2, 3, 5, 7]}, (951, 1)),
    ({"a": [0, 5, 7], "b": [0, 2, 4, 7], "c": [0, 1, 3, 7]}, (396, 2)),
    ({"a": [0, 1, 2, 3, 5, 6, 7], "b": [0, 3, 5], "c": [0, 2, 4, 7], "d": [0, 3, 5, 6, 7]}, (262, 2)),
    ({"a": [0, 6, 7], "b": [0, 2, 4, 5, 7], "c": [0, 1, 4]}, (0, 32)),
    ({"a": [0, 1, 3, 5, 6], "b": [0, 6, 7], "c": [0, 1, 4, 5, 6, 7], "d": [0, 3, 4, 5, 7]}, (0, 36)),
]


def lengths_filled(combs, upto):
    """The lengths from 0 to upto that can be filled: all below is covered then, and nothing from there on."""
    return [length for length, row in enumerate(rows_covered(combs, upto)) if frozenset() in row]


def is_told(told, length):
    upto, short, step = told
    if length <= upto:
        return length in short
    return step > 0 and length % step == 0


class LengthsCase(unittest.TestCase):
    def check(self, combs):
        told = flush_lengths(book_of(combs))
        with self.subTest(combs=combs):
            self.check_kinds(told)
            upto, short, step = told
            # Each length that can be filled is made of ways round that meet no shape twice and of ways there and
            # back, so what divides those up to 400 divides all; and from upto on it is enough to look at one turn
            # of the least length that can be filled, as planks can be set one behind another.
            far = 400 + upto
            filled = lengths_filled(combs, far)
            self.assertEqual(step, math.gcd(*filled))
            self.assertEqual([length for length in range(far + 1) if is_told(told, length)], filled)
            # One less would not do: upto is a multiple of step that can't be filled.
            if upto > 0:
                self.assertEqual(upto % step, 0)
                self.assertNotIn(upto, filled)
        return told

    def check_kinds(self, told):
        self.assertIs(type(told), tuple)
        self.assertEqual([type(value) for value in told], [int, list, int])
        self.assertEqual(set(type(length) for length in told[1]), {int})
        self.assertEqual(told[1][0], 0)
        self.assertEqual(told[1], sorted(set(told[1])))
        self.assertLessEqual(told[1][-1], told[0])
        self.assertTrue(told[0] >= 0 and told[2] >= 0)


class TestFlushLengths(LengthsCase):
    def test_what_is_told(self):
        for combs, wanted in TOLD:
            with self.subTest(combs=combs):
                self.assertEqual(flush_lengths(book_of(combs)), wanted)
            self.check(combs)

    def test_the_empty_book(self):
        self.assertEqual(flush_lengths(Book()), (0, [0], 0))
        book = book_of({"a": [0]})
        book.drop("a")
        self.assertEqual(flush_lengths(book), (0, [0], 0))

    def test_a_strip_that_is_filled_where_no_length_is(self):
        book = book_of({"a": [0, 2, 7], "b": [0, 2, 5]})
        self.assertEqual(fill_strip(book)[0], "filled")
        self.assertEqual(flush_lengths(book), (0, [0], 0))

    def test_great_ones(self):
        for combs, (upto, step) in GREAT:
            told = self.check(combs)
            self.assertEqual((told[0], told[2]), (upto, step))

    def test_bars(self):
        # A comb with no gap is a bar, and bars fill just the sums of their lengths.
        for sizes in itertools.chain.from_iterable(itertools.combinations(range(1, 9), many) for many in (1, 2, 3, 4)):
            book = book_of({"abcd"[at]: range(size) for at, size in enumerate(sizes)})
            step = math.gcd(*sizes)
            sums = {0}
            for length in range(1, 100):
                if any(length - size in sums for size in sizes):
                    sums.add(length)
            missing = [length for length in range(0, 100, step) if length not in sums]
            upto = max(missing, default=0)
            short = sorted(length for length in sums if length <= upto)
            self.assertEqual(flush_lengths(book), (upto, short, step))

    def test_every_comb_alone(self):
        steps = set()
        for size in range(8):
            for behind in itertools.combinations(range(1, 8), size):
                steps.add(self.check({"a": [0] + list(behind)})[2])
        self.assertLessEqual({0, 1, 2, 3, 4, 6, 8, 14}, steps)

    def test_many_books(self):
        told = [self.check(some_combs(seed, most_combs=4, most_teeth=5)) for seed in range(120)]
        self.assertGreater(sum(answer[2] == 0 for answer in told), 5)
        self.assertGreater(sum(answer[2] == 1 for answer in told), 20)
        self.assertGreater(sum(answer[2] > 1 for answer in told), 20)
        self.assertGreater(sum(answer[0] > 0 for answer in told), 15)

    def test_every_length_up_to_200_by_the_shapes_at_its_end(self):
        books = [combs for combs, wanted in TOLD + GREAT] + [some_combs(seed, most_teeth=5) for seed in range(12)]
        for combs in books:
            book = book_of(combs)
            told = flush_lengths(book)
            for length in range(201):
                self.assertEqual(0 in shapes_at(book, length), is_told(told, length), (combs, length))


class TestFitsFlush(LengthsCase):
    def test_the_edges(self):
        edges = [0, 1, 10 ** 12 - 1, 10 ** 12]
        wanted = [
            ({}, [True, False, False, False]),
            ({"a": [0, 1, 3]}, [True, False, False, False]),
            ({"a": [0, 2, 7], "b": [0, 2, 5]}, [True, False, False, False]),
            ({"a": [0]}, [True, True, True, True]),
            ({"a": [0, 1]}, [True, False, False, True]),
            ({"a": THREE}, [True, False, True, False]),
            ({"a": SEVEN}, [True, False, True, False]),
            ({"a": [0, 7]}, [True, False, False, False]),
            ({"a": SEVEN, "b": EIGHT}, [True, False, True, True]),
            ({"a": SIX, "b": EIGHT}, [True, False, False, True]),
        ]
        for combs, answers in wanted:
            with self.subTest(combs=combs):
                self.assertEqual([fits_flush(book_of(combs), length) for length in edges], answers)

    def test_true_or_false_and_no_other_kind(self):
        for combs in [{}, {"a": [0, 1, 3]}, {"a": [0, 1]}, {"a": SEVEN, "b": EIGHT}]:
            for length in [0, 1, 2, 41, 42, 200, 10 ** 12 - 1, 10 ** 12]:
                self.assertIs(type(fits_flush(book_of(combs), length)), bool)

    def test_lengths_out_of_bounds(self):
        for combs in [{}, {"a": [0]}, {"a": [0, 1, 3]}, {"a": SEVEN, "b": EIGHT}]:
            for length in [-1, 10 ** 12 + 1, -2, 10 ** 13, -10 ** 12, 10 ** 40, -10 ** 40]:
                with self.subTest(combs=combs, length=length), self.assertRaises(errors.BadLength):
                    fits_flush(book_of(combs), length)

    def test_every_length_up_to_260(self):
        for combs in [combs for combs, wanted in TOLD] + [some_combs(seed, most_combs=3) for seed in range(15)]:
            book = book_of(combs)
            filled = lengths_filled(combs, 260)
            self.assertEqual([length for length in range(261) if fits_flush(book, length)], filled, combs)

    def test_about_upto_and_far_out(self):
        for combs, wanted in GREAT + TOLD:
            book = book_of(combs)
            told = flush_lengths(book)
            for about in [told[0], 5000, 10 ** 6, 10 ** 12 - 40]:
                for length in range(max(0, about - 40), about + 41):
                    self.assertIs(fits_flush(book, length), is_told(told, length), (combs, length))

    def test_a_sum_of_two_lengths_that_can_be_filled_can_be_filled(self):
        for combs, wanted in TOLD:
            book = book_of(combs)
            lengths = list(range(24)) + [10 ** 12 // 2 - 1, 10 ** 12 // 2]
            filled = [length for length in lengths if fits_flush(book, length)]
            for one, other in itertools.combinations_with_replacement(filled, 2):
                self.assertTrue(fits_flush(book, one + other), (combs, one, other))


if __name__ == "__main__":
    unittest.main()
