import collections
import functools
import itertools
import unittest

from combstrip import errors
from combstrip.book import Book
from combstrip.fillings import count_fillings, count_fillings_with, first_filling, first_filling_with
from combstrip.lengths import fits_flush
from helper import book_of, fillings_of, some_combs, ways_on

# Small planks, each with the length up to which all fillings are written out.
SMALL = [
    ({}, 12),
    ({"a": [0]}, 12),
    ({"a": [0, 1, 3]}, 12),
    ({"a": [0, 2]}, 20),
    ({"a": [0], "b": [0, 1]}, 12),
    ({"b": [0], "a": [0, 1]}, 12),
    # The same teeth twice.
    ({"b": [0, 2], "a": [0, 2]}, 16),
    ({"b": [0, 1], "a": [0, 1], "ab": [0]}, 9),
    # A comb that is ahead by name, but for which the plank must be long enough.
    ({"a": [0, 1, 3], "b": [0, 3]}, 30),
    ({"a": [0, 7], "b": [0]}, 14),
    ({"a": [0, 2, 7], "b": [0, 2, 5]}, 20),
    ({"c": [0, 1, 2, 3, 4, 5, 6, 7], "b": [0, 4], "a": [0, 1]}, 20),
]

# Some books for long planks.
LONG_ONES = [
    {"a": [0]},
    {"a": [0, 2]},
    {"a": [0], "b": [0, 1]},
    {"a": [0, 1, 3], "b": [0, 3]},
    {"a": [0, 7], "b": [0, 1]},
    {"a": [0, 6, 7], "b": [0, 2, 4, 5, 7], "c": [0, 1, 4]},
    {"a": [0, 4, 6], "b": [0, 3, 7], "c": [0, 2, 3, 5, 7]},
    {"a": [0], "b": [0, 1], "c": [0, 2], "d": [0, 3], "e": [0, 4], "f": [0, 5], "g": [0, 6], "h": [0, 7]},
]

OUT_OF_BOUNDS = [-1, 201, -2, 202, -200, 10 ** 12, 10 ** 40, -10 ** 40]

NO_COMBS = ["", " ", "A", "b", "aa", "abcdefg", "a" * 40]


def fillings_by_trying(combs, length):
    """All fillings of a plank, by trying each choice of a comb, or of none, for each place."""
    found = []
    for choice in itertools.product([None] + sorted(combs), repeat=length):
        layings = [(place, name) for place, name in enumerate(choice) if name is not None]
        under = [place + tooth for place, name in layings for tooth in combs[name]]
        if sorted(under) == list(range(length)):
            found.append(layings)
    return found


def goes_first(one, other):
    """The order of point 16, word by word."""
    for place in range(len(one) + len(other) + 100):
        here = [[laying for laying in layings if laying[0] == place] for layings in (one, other)]
        if here[0] != here[1]:
            return here[0][0][1] < here[1][0][1]
    return False


def is_with(filling, name):
    return name in [laid for place, laid in filling]


def counts_from_the_left(combs, name, length):
    """How many fillings there are, and how many of them with the comb, counted place by place from the left."""
    ways = ways_on(combs)
    row = collections.Counter({(frozenset(), False): 1})
    for place in range(length):
        further = collections.Counter()
        for (covered, laid), count in row.items():
            for used, after in ways(covered):
                further[after, laid or used == name] += count
        row = further
    return row[frozenset(), False] + row[frozenset(), True], row[frozenset(), True]


def first_by_closing(combs, name, length):
    """The first filling, or the first with the comb of that name, or None: each time the first comb is laid
    with which the rest can still be filled."""
    ways = ways_on(combs)

    @functools.lru_cache(maxsize=None)
    def closes(covered, laid, left):
        if left == 0:
            return laid and not covered
        return any(closes(after, laid or used == name, left - 1) for used, after in ways(covered))

    covered, laid, layings = frozenset(), name is None, []
    if not closes(covered, laid, length):
        return None
    for place in range(length):
        open_ways = [way for way in ways(covered) if closes(way[1], laid or way[0] == name, length - place - 1)]
        used, covered = open_ways[0]
        laid = laid or used == name
        if used is not None:
            layings.append((place, used))
    return layings


class FillingsCase(unittest.TestCase):
    def first_or_none(self, ask, *handed):
        try:
            layings = ask(*handed)
        except errors.NoFilling:
            return None
        self.assertIs(type(layings), list)
        for laying in layings:
            self.assertIs(type(laying), tuple)
            self.assertEqual([type(value) for value in laying], [int, str])
        return layings

    def check_covered(self, combs, layings, length):
        """Each place is under just one tooth, no tooth is over another place, and the layings rise."""
        under = [place + tooth for place, name in layings for tooth in combs[name]]
        self.assertEqual(sorted(under), list(range(length)))
        self.assertEqual(layings, sorted(layings))

    def check_small(self, combs, length, fillings):
        book = book_of(combs)
        with self.subTest(combs=combs, length=length):
            self.assertEqual(count_fillings(book, length), len(fillings))
            self.assertEqual(self.first_or_none(first_filling, book, length), fillings[0] if fillings else None)
            for name in combs:
                some = [filling for filling in fillings if is_with(filling, name)]
                self.assertEqual(count_fillings_with(book, name, length), len(some))
                first = self.first_or_none(first_filling_with, book, name, length)
                self.assertEqual(first, some[0] if some else None)

    def check_long(self, combs, length):
        book = book_of(combs)
        first = self.first_or_none(first_filling, book, length)
        with self.subTest(combs=combs, length=length):
            self.assertEqual(first, first_by_closing(combs, None, length))
            if first is not None:
                self.check_covered(combs, first, length)
            for name in combs:
                every, some = counts_from_the_left(combs, name, length)
                self.assertEqual(count_fillings(book, length), every)
                self.assertEqual(count_fillings_with(book, name, length), some)
                first_with = self.first_or_none(first_filling_with, book, name, length)
                self.assertEqual(first_with, first_by_closing(combs, name, length))
                self.assertEqual(first_with is None, some == 0)
                if first_with is not None:
                    self.check_covered(combs, first_with, length)
                    self.assertTrue(is_with(first_with, name))


class TestTheFillingsWrittenOut(unittest.TestCase):
    """The fillings that the answers are held against are all there, and stand in their order."""

    def test_all_are_there(self):
        for combs, upto in SMALL:
            for length in range(7):
                fillings = fillings_of(combs, length)
                self.assertEqual(sorted(fillings), sorted(fillings_by_trying(combs, length)))

    def test_they_stand_in_their_order(self):
        for combs, upto in SMALL:
            fillings = fillings_of(combs, min(upto, 8))
            for one, other in itertools.combinations(fillings, 2):
                self.assertTrue(goes_first(one, other) and not goes_first(other, one))


class TestSmallPlanks(FillingsCase):
    def test_every_filling_written_out(self):
        for combs, upto in SMALL:
            for length in range(upto + 1):
                self.check_small(combs, length, fillings_of(combs, length))

    def test_many_books(self):
        filled = 0
        for seed in range(120):
            combs = some_combs(seed, most_combs=3, most_teeth=4)
            for length in range(10):
                fillings = fillings_of(combs, length)
                filled += len(fillings) > 1
                self.check_small(combs, length, fillings)
        self.assertGreater(filled, 100)

    def test_length_0(self):
        for combs in [{}, {"a": [0]}, {"a": [0, 1, 3]}, {"a": [0], "b": [0]}]:
            book = book_of(combs)
            self.assertEqual(first_filling(book, 0), [])
            self.assertEqual(count_fillings(book, 0), 1)
            for name in combs:
                self.assertEqual(count_fillings_with(book, name, 0), 0)
                self.assertRaises(errors.NoFilling, first_filling_with, book, name, 0)

    def test_length_1(self):
        book = book_of({"b": [0], "a": [0, 1], "c": [0]})
        self.assertEqual(first_filling(book, 1), [(0, "b")])
        self.assertEqual(count_fillings(book, 1), 2)
        self.assertEqual(first_filling_with(book, "c", 1), [(0, "c")])
        self.assertEqual([count_fillings_with(book, name, 1) for name in "abc"], [0, 1, 1])
        self.assertRaises(errors.NoFilling, first_filling_with, book, "a", 1)

    def test_fillings_by_hand(self):
        book = book_of({"b": [0], "a": [0, 1]})
        self.assertEqual(first_filling(book, 3), [(0, "a"), (2, "b")])
        self.assertEqual(first_filling_with(book, "b", 4), [(0, "a"), (2, "b"), (3, "b")])
        self.assertEqual(first_filling(book, 4), [(0, "a"), (2, "a")])
        self.assertEqual([count_fillings(book, length) for length in range(7)], [1, 1, 2, 3, 5, 8, 13])
        self.assertEqual([count_fillings_with(book, "a", length) for length in range(7)], [0, 0, 1, 2, 4, 7, 12])
        self.assertEqual([count_fillings_with(book, "b", length) for length in range(7)], [0, 1, 1, 3, 4, 8, 12])

    def test_a_comb_that_must_be_laid_is_laid_as_late_as_the_order_asks(self):
        book = book_of({"a": [0], "b": [0], "c": [0, 1]})
        self.assertEqual(first_filling_with(book, "b", 3), [(0, "a"), (1, "a"), (2, "b")])
        self.assertEqual(first_filling_with(book, "c", 4), [(0, "a"), (1, "a"), (2, "c")])
        # Once it is laid, what is first by name goes on.
        book = book_of({"b": [0, 2, 3], "a": [0, 1], "c": [0]})
        self.assertEqual(first_filling_with(book, "b", 6), [(0, "a"), (2, "b"), (3, "c")])
        self.assertEqual(first_filling_with(book, "b", 7), [(0, "a"), (2, "b"), (3, "c"), (6, "c")])

    def test_combs_with_the_same_teeth_are_two_kinds(self):
        book = book_of({"b": [0], "a": [0]})
        for length in [1, 2, 10, 200]:
            self.assertEqual(count_fillings(book, length), 2 ** length)
            self.assertEqual(count_fillings_with(book, "b", length), 2 ** length - 1)
            self.assertEqual(first_filling(book, length), [(place, "a") for place in range(length)])
            last = [(length - 1, "b")]
            self.assertEqual(first_filling_with(book, "b", length), first_filling(book, length)[:-1] + last)


class TestLongPlanks(FillingsCase):
    def test_about_200(self):
        for combs in LONG_ONES:
            for length in [199, 200]:
                self.check_long(combs, length)

    def test_many_books(self):
        for seed in range(20):
            for length in [31, 60]:
                self.check_long(some_combs(seed, most_combs=4, most_teeth=5), length)

    def test_length_200_by_other_sums(self):
        self.assertEqual(count_fillings(book_of({"a": [0]}), 200), 1)
        self.assertEqual(count_fillings(book_of({"a": [0, 1, 2]}), 200), 0)
        pairs = [1, 1]
        while len(pairs) <= 200:
            pairs.append(pairs[-1] + pairs[-2])
        book = book_of({"a": [0], "b": [0, 1]})
        self.assertEqual(count_fillings(book, 200), pairs[200])
        self.assertEqual(count_fillings_with(book, "a", 200), pairs[200] - 1)
        self.assertEqual(count_fillings_with(book, "b", 200), pairs[200] - 1)
        self.assertEqual(first_filling_with(book, "b", 200), [(place, "a") for place in range(198)] + [(198, "b")])
        eight = book_of({name: [0] for name in "abcdefgh"})
        self.assertEqual(count_fillings(eight, 200), 8 ** 200)
        self.assertEqual(count_fillings_with(eight, "d", 200), 8 ** 200 - 7 ** 200)

    def test_there_are_fillings_just_where_the_length_can_be_filled(self):
        for combs in LONG_ONES:
            book = book_of(combs)
            for length in list(range(0, 201, 14)) + [199, 200]:
                self.assertEqual(count_fillings(book, length) > 0, fits_flush(book, length))

    def test_the_count_is_a_whole_number(self):
        for combs in [{"a": [0]}, {"a": [0, 1]}]:
            for length in [0, 1, 200]:
                self.assertIs(type(count_fillings(book_of(combs), length)), int)
                self.assertIs(type(count_fillings_with(book_of(combs), "a", length)), int)


class TestRefusals(unittest.TestCase):
    def refused(self, refusal, ask, *handed):
        with self.subTest(ask=ask.__name__, handed=handed[1:]):
            with self.assertRaises(errors.CombError) as caught:
                ask(*handed)
            self.assertIs(type(caught.exception), refusal)

    def test_lengths_out_of_bounds(self):
        for combs in [{"a": [0]}, {"a": [0, 1, 3]}]:
            for length in OUT_OF_BOUNDS:
                for ask in [first_filling, count_fillings]:
                    self.refused(errors.BadLength, ask, Book(), length)
                    self.refused(errors.BadLength, ask, book_of(combs), length)
                for ask in [first_filling_with, count_fillings_with]:
                    self.refused(errors.BadLength, ask, book_of(combs), "a", length)

    def test_no_filling(self):
        for length in [1, 2, 199, 200]:
            self.refused(errors.NoFilling, first_filling, Book(), length)
            self.refused(errors.NoFilling, first_filling, book_of({"a": [0, 1, 3]}), length)
            self.refused(errors.NoFilling, first_filling_with, book_of({"a": [0, 1, 3]}), "a", length)
            self.assertEqual(count_fillings(Book(), length), 0)
            self.assertEqual(count_fillings(book_of({"a": [0, 1, 3]}), length), 0)
            self.assertEqual(count_fillings_with(book_of({"a": [0, 1, 3]}), "a", length), 0)
        self.refused(errors.NoFilling, first_filling, book_of({"a": [0, 1, 2]}), 200)
        self.refused(errors.NoFilling, first_filling, book_of({"a": [0, 1]}), 1)

    def test_fillings_but_none_with_the_comb(self):
        book = book_of({"a": [0, 1], "b": [0, 1, 2, 4], "c": [0, 1, 2]})
        self.assertEqual(first_filling(book, 4), [(0, "a"), (2, "a")])
        self.refused(errors.NoFilling, first_filling_with, book, "c", 4)
        self.refused(errors.NoFilling, first_filling_with, book, "b", 4)
        self.refused(errors.NoFilling, first_filling_with, book, "b", 200)
        self.assertEqual(count_fillings_with(book, "b", 200), 0)

    def test_a_comb_that_is_not_there_goes_ahead_of_a_length_out_of_bounds(self):
        for ask in [first_filling_with, count_fillings_with]:
            for name in NO_COMBS:
                for length in [0, 1, 7, 200] + OUT_OF_BOUNDS:
                    self.refused(errors.NoComb, ask, Book(), name, length)
                    self.refused(errors.NoComb, ask, book_of({"a": [0]}), name, length)
            book = book_of({"a": [0], "b": [0]})
            book.drop("b")
            self.refused(errors.NoComb, ask, book, "b", 201)

    def test_a_length_out_of_bounds_goes_ahead_of_no_filling(self):
        book = book_of({"a": [0, 1, 3]})
        for length in OUT_OF_BOUNDS:
            self.refused(errors.BadLength, first_filling, book, length)
            self.refused(errors.BadLength, first_filling_with, book, "a", length)


if __name__ == "__main__":
    unittest.main()
