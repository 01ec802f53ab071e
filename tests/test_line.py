import itertools
import unittest

from combstrip.book import Book
from combstrip.line import fill_line
from combstrip.shapes import shape_steps
from combstrip.strip import fill_strip
from helper import book_of, greatest_ways, shape_of, some_combs

# Combs whose line can be filled.
FILLED = [
    {"a": [0]},
    {"a": [0, 7]},
    {"a": [0, 1, 2, 3, 4, 5, 6, 7]},
    {"a": [0, 2]},
    {"b": [0, 2], "a": [0, 2]},
    {"a": [0, 2, 3], "b": [0, 1, 3]},
    # The strip can be filled, but no plank with two ends.
    {"a": [0, 2, 7], "b": [0, 2, 5]},
    # Only the line can be filled.
    {"a": [0, 1, 5]},
    {"a": [0, 5, 7]},
    {"a": [0, 4, 5]},
    # Long spans.
    {"a": [0, 1, 4, 6], "b": [0, 2, 6, 7], "c": [0, 7]},
    {"a": [0, 1, 7], "b": [0, 5, 6], "c": [0, 4, 7], "d": [0, 3, 6]},
]

# Combs whose line can't be filled, and the greatest count.
STUCK = [
    ({}, 7),
    ({"a": [0, 1, 3]}, 10),
    ({"a": [0, 2, 3]}, 10),
    ({"a": [0, 3, 7]}, 16),
    ({"a": [0, 2, 6], "b": [0, 4, 7]}, 47),
    ({"a": [0, 2, 6, 7], "b": [0, 1, 2, 5, 6], "c": [0, 1, 7], "d": [0, 2, 3, 6, 7]}, 54),
]


def shapes_made(combs, span, layings):
    """The shapes at the places from 0 to span - 1, if each laying is there at every multiple of span."""
    turns = range(-8 // span - 1, 2)
    everywhere = [(place + span * turn, name) for turn in turns for place, name in layings]
    shapes = []
    for here in range(span):
        under = [place + tooth for place, name in everywhere if place < here for tooth in combs[name]]
        shapes.append(shape_of(set(under), here))
    return shapes


class LineCase(unittest.TestCase):
    def check_filled(self, combs, answer):
        self.assertEqual(len(answer), 4)
        word, span, shapes, layings = answer
        self.assertEqual(word, "filled")
        self.assertEqual([type(span), type(shapes), type(layings)], [int, list, list])
        self.assertTrue(1 <= span <= 128)
        self.assertEqual(set(type(laying) for laying in layings), {tuple})
        self.assertEqual(set((type(place), type(name)) for place, name in layings), {(int, str)})
        self.assertTrue(all(0 <= place < span for place, name in layings))
        places = [place for place, name in layings]
        self.assertEqual(places, sorted(set(places)))
        # Moved by every multiple of span, two teeth are over the same place just where they leave the same rest.
        rests = [(place + tooth) % span for place, name in layings for tooth in combs[name]]
        self.assertEqual(sorted(rests), list(range(span)))
        self.assertEqual(set(type(shape) for shape in shapes), {int})
        self.assertEqual(shapes, shapes_made(combs, span, layings))

    def check_steps(self, combs, answer):
        """The told shapes and layings are a way round by shape_steps."""
        span, shapes, layings = answer[1:]
        laid = dict(layings)
        for place, shape in enumerate(shapes):
            step = (laid.get(place, ""), shapes[(place + 1) % span])
            self.assertIn(step, shape_steps(book_of(combs), shape))

    def check_stuck(self, combs, answer, wanted):
        self.assertEqual(len(answer), 2)
        word, counts = answer
        self.assertEqual((word, type(counts), len(counts)), ("stuck", list, 128))
        self.assertEqual(set(type(count) for count in counts), {int})
        self.assertEqual(counts, wanted)
        for shape in range(128):
            behind = [counts[further] for name, further in shape_steps(book_of(combs), shape)]
            self.assertEqual(counts[shape], 1 + max(behind) if behind else 0)

    def check(self, combs):
        answer = fill_line(book_of(combs))
        self.assertIs(type(answer), tuple)
        wanted = greatest_ways(combs)
        with self.subTest(combs=combs):
            if wanted is None:
                self.check_filled(combs, answer)
                self.check_steps(combs, answer)
            else:
                self.check_stuck(combs, answer, wanted)
        return answer


class TestFillLine(LineCase):
    def test_lines_that_are_filled(self):
        for combs in FILLED:
            self.assertEqual(self.check(combs)[0], "filled", combs)

    def test_lines_that_are_stuck(self):
        for combs, greatest in STUCK:
            answer = self.check(combs)
            self.assertEqual((answer[0], max(answer[1])), ("stuck", greatest), combs)

    def test_the_empty_book(self):
        # From a shape one goes on over the places that are covered already, and no further.
        counts = []
        for shape in range(128):
            covered = [shape // 2 ** spot % 2 == 1 for spot in range(7)] + [False]
            counts.append(covered.index(False))
        self.assertEqual(fill_line(Book()), ("stuck", counts))
        book = book_of({"a": [0]})
        book.drop("a")
        self.assertEqual(fill_line(book), ("stuck", counts))

    def test_counts_of_one_comb_by_hand(self):
        counts = fill_line(book_of({"a": [0, 1, 3]}))[1]
        # 0: laid at 0, over 0, 1 and 3; nothing fits at 2, as 3 is covered.
        self.assertEqual(counts[0], 2)
        # 2: place 1 is covered, so the comb does not fit at 0.
        self.assertEqual(counts[2], 0)
        # 4: laid at 0, over 0, 1 and 3, with 2 covered already; then laid at 4, over 4, 5 and 7, and stuck at 6.
        self.assertEqual(counts[4], 6)
        self.assertEqual(counts[1], 3)

    def test_lines_of_books_whose_strip_is_stuck(self):
        for combs in [{"a": [0, 1, 5]}, {"a": [0, 5, 7]}, {"a": [0, 4, 5]}]:
            self.assertEqual(fill_strip(book_of(combs))[0], "stuck")
            self.assertEqual(self.check(combs)[0], "filled")

    def test_where_the_strip_is_filled_the_line_is(self):
        met = set()
        for seed in range(300):
            book = book_of(some_combs(seed, most_combs=3, most_teeth=5))
            met.add((fill_strip(book)[0], fill_line(book)[0]))
        self.assertEqual(met, {("filled", "filled"), ("stuck", "filled"), ("stuck", "stuck")})

    def test_long_spans(self):
        self.assertEqual([self.check(combs)[1] > 30 for combs in FILLED[-2:]], [True, True])

    def test_every_comb_alone(self):
        words = []
        for size in range(8):
            for behind in itertools.combinations(range(1, 8), size):
                words.append(self.check({"a": [0] + list(behind)})[0])
        self.assertEqual(len(words), 128)
        self.assertEqual(set(words), {"filled", "stuck"})

    def test_many_books(self):
        words = []
        for seed in range(150):
            words.append(self.check(some_combs(seed, most_combs=4, most_teeth=5))[0])
        self.assertGreater(words.count("filled"), 20)
        self.assertGreater(words.count("stuck"), 10)

    def test_books_of_many_combs(self):
        for seed in range(40):
            self.check(some_combs(seed))


if __name__ == "__main__":
    unittest.main()
