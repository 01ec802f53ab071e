import itertools
import unittest

from combstrip import errors
from combstrip.book import Book
from combstrip.shapes import shape_steps, shapes_at
from helper import book_of, combs_of, full_of_deeds, shape_of, shapes_of_plank, some_combs

ALL_TEETH = [0, 1, 2, 3, 4, 5, 6, 7]

FAR_NUMBERS = [-10 ** 40, -10 ** 20, -201, -129, -2, 10 ** 20, 10 ** 40]


def steps_by_places(combs, shape):
    """The steps from a shape, told by sets of places."""
    covered = set(spot for spot in range(7) if shape // 2 ** spot % 2 == 1)
    if 0 in covered:
        return [("", shape_of(covered, 1))]
    steps = []
    for name in sorted(combs):
        if not covered & set(combs[name]):
            steps.append((name, shape_of(covered | set(combs[name]), 1)))
    return steps


def shapes_by_trying(combs, place):
    """The shapes at a place, by trying each choice of a comb, or of none, for each place below."""
    found = set()
    for choice in itertools.product([None] + sorted(combs), repeat=place):
        under = []
        for spot, name in enumerate(choice):
            if name is not None:
                under += [spot + tooth for tooth in combs[name]]
        if len(set(under)) == len(under) and set(range(place)) <= set(under):
            found.add(shape_of(under, place))
    return sorted(found)


class TestShapeSteps(unittest.TestCase):
    def test_the_example_of_the_document(self):
        self.assertEqual(shape_steps(book_of({"a": [0, 2]}), 0), [("a", 2)])

    def test_an_odd_shape_goes_on_without_a_laying(self):
        for combs in [{}, {"a": [0]}, {"a": ALL_TEETH, "b": [0, 2]}]:
            book = book_of(combs)
            self.assertEqual(shape_steps(book, 1), [("", 0)])
            self.assertEqual(shape_steps(book, 3), [("", 1)])
            self.assertEqual(shape_steps(book, 85), [("", 42)])
            self.assertEqual(shape_steps(book, 127), [("", 63)])

    def test_steps_from_the_shape_0(self):
        book = book_of({"b": [0], "ab": ALL_TEETH, "a": [0, 7], "c": [0, 1]})
        self.assertEqual(shape_steps(book, 0), [("a", 64), ("ab", 127), ("b", 0), ("c", 1)])

    def test_steps_from_the_shape_126(self):
        book = book_of({"a": [0, 7], "b": [0], "c": [0, 1], "d": [0, 6]})
        self.assertEqual(shape_steps(book, 126), [("a", 127), ("b", 63)])

    def test_a_comb_that_does_not_fit(self):
        book = book_of({"a": [0, 2]})
        self.assertEqual(shape_steps(book, 2), [("a", 3)])
        self.assertEqual(shape_steps(book, 4), [])
        self.assertEqual(shape_steps(book, 126), [])
        for tooth in range(1, 7):
            self.assertEqual(shape_steps(book_of({"a": [0, tooth]}), 2 ** tooth), [])
            self.assertEqual(shape_steps(book_of({"a": ALL_TEETH}), 2 ** tooth), [])

    def test_the_empty_book(self):
        for shape in range(128):
            answer = [("", shape // 2)] if shape % 2 == 1 else []
            self.assertEqual(shape_steps(Book(), shape), answer)

    def test_combs_with_the_same_teeth_are_both_told(self):
        book = book_of({"b": [0, 3], "a": [3, 0]})
        self.assertEqual(shape_steps(book, 2), [("a", 5), ("b", 5)])

    def test_every_shape_in_many_books(self):
        for seed in range(60):
            combs = some_combs(seed)
            book = book_of(combs)
            for shape in range(128):
                self.assertEqual(shape_steps(book, shape), steps_by_places(combs, shape), (combs, shape))

    def test_numbers_that_are_no_shapes(self):
        for book in [Book(), book_of({"a": [0, 2]})]:
            for shape in [-1, 128, 129, 255, 256] + FAR_NUMBERS:
                with self.subTest(shape=shape), self.assertRaises(errors.BadShape):
                    shape_steps(book, shape)

    def test_the_kinds_of_the_answer(self):
        for shape in [0, 1, 126, 127]:
            answer = shape_steps(book_of({"a": [0, 7]}), shape)
            self.assertIs(type(answer), list)
            for step in answer:
                self.assertIs(type(step), tuple)
                self.assertEqual([type(value) for value in step], [str, int])


class TestShapesAt(unittest.TestCase):
    def test_place_0(self):
        for combs in [{}, {"a": [0]}, {"a": ALL_TEETH, "b": [0, 2]}]:
            self.assertEqual(shapes_at(book_of(combs), 0), [0])

    def test_place_1(self):
        book = book_of({"b": [0], "ab": ALL_TEETH, "a": [0, 7], "c": [0, 1], "d": [1, 0]})
        self.assertEqual(shapes_at(book, 1), [0, 1, 64, 127])

    def test_one_comb_place_by_place(self):
        book = book_of({"a": [0, 2]})
        rows = [[0], [2], [3], [1], [0], [2], [3], [1], [0]]
        self.assertEqual([shapes_at(book, place) for place in range(9)], rows)

    def test_a_comb_that_gets_stuck(self):
        book = book_of({"a": [0, 1, 3]})
        self.assertEqual([shapes_at(book, place) for place in range(6)], [[0], [5], [2], [], [], []])
        self.assertEqual(shapes_at(book, 200), [])

    def test_the_empty_book(self):
        self.assertEqual([shapes_at(Book(), place) for place in [0, 1, 2, 200]], [[0], [], [], []])

    def test_place_200(self):
        self.assertEqual(shapes_at(book_of({"a": [0]}), 200), [0])
        self.assertEqual(shapes_at(book_of({"a": [0, 2]}), 200), [0])
        self.assertEqual(shapes_at(book_of({"a": [0, 2]}), 199), [1])
        self.assertEqual(shapes_at(book_of({"a": ALL_TEETH}), 199), [1])
        self.assertEqual(shapes_at(book_of({"a": [0, 1, 2]}), 200), [1])
        every = book_of({"a": [0], "b": [0, 1], "c": [0, 2], "d": [0, 3], "e": [0, 4], "f": [0, 5], "g": [0, 6]})
        self.assertEqual(shapes_at(every, 200), list(range(64)))
        every.put("h", [0, 7])
        self.assertEqual(shapes_at(every, 200), list(range(128)))

    def test_every_choice_of_layings_tried(self):
        books = [{"a": [0]}, {"a": [0, 2]}, {"a": [0, 1, 3]}, {"a": [0, 2], "b": [0]}, {"a": [0, 1, 3], "b": [0, 3]}]
        books += [{"a": [0, 2, 3], "b": [0, 1, 4], "c": [0, 7]}, {"a": ALL_TEETH, "b": [0, 4], "c": [0, 4]}]
        books += [some_combs(seed, most_combs=3, most_teeth=3) for seed in range(20)]
        for combs in books:
            for place in range(6):
                self.assertEqual(shapes_at(book_of(combs), place), shapes_by_trying(combs, place), (combs, place))

    def test_far_places_by_sets_of_places(self):
        for seed in range(25):
            combs = some_combs(seed, most_teeth=4)
            for place in [1, 2, 7, 8, 9, 40, 200]:
                self.assertEqual(shapes_at(book_of(combs), place), shapes_of_plank(combs, place), (combs, place))

    def test_each_row_is_where_the_steps_lead_from_the_row_ahead(self):
        book = book_of({"a": [0, 3, 7], "b": [0, 2, 6], "c": [0, 1]})
        for place in range(40):
            reached = set()
            for shape in shapes_at(book, place):
                reached.update(behind for name, behind in shape_steps(book, shape))
            self.assertEqual(shapes_at(book, place + 1), sorted(reached))

    def test_numbers_that_are_no_places(self):
        for book in [Book(), book_of({"a": [0, 2]})]:
            for place in [-1, 201, 202] + FAR_NUMBERS:
                with self.subTest(place=place), self.assertRaises(errors.BadPlace):
                    shapes_at(book, place)

    def test_the_kinds_of_the_answer(self):
        for place in [0, 1, 200]:
            answer = shapes_at(book_of({"a": [0, 7], "b": [0]}), place)
            self.assertIs(type(answer), list)
            self.assertEqual(set(type(shape) for shape in answer), {int})


class TestWhatTheAnswersHangOn(unittest.TestCase):
    combs = {"a": [0, 2, 5], "b": [0, 1], "ca": [0, 3], "d": [0, 7]}

    def answers(self, book):
        steps = [shape_steps(book, shape) for shape in range(128)]
        return steps, [shapes_at(book, place) for place in (0, 1, 2, 3, 10, 11, 200)]

    def test_another_order(self):
        wanted = self.answers(book_of(self.combs))
        for order in itertools.permutations(self.combs):
            combs = {name: self.combs[name][::-1] for name in order}
            self.assertEqual(self.answers(book_of(combs)), wanted)

    def test_other_deeds(self):
        wanted = self.answers(book_of(self.combs))
        book = book_of({"zz": [0, 1, 2], "d": [0, 7], "ca": [0, 7], "b": [0], "x": [0]})
        for name in ["zz", "x"]:
            book.drop(name)
        book.put("a", [0, 5, 6])
        book.take_off("a", 6)
        book.add_tooth("a", 2)
        book.take_off("ca", 7)
        book.add_tooth("ca", 3)
        book.add_tooth("b", 1)
        self.assertEqual(combs_of(book), self.combs)
        self.assertEqual(self.answers(book), wanted)
        book.drop("a")
        self.assertNotEqual(self.answers(book), wanted)
        book.undo()
        self.assertEqual(self.answers(book), wanted)
        book = full_of_deeds(book_of(self.combs))
        self.assertEqual((combs_of(book), book.deeds()), (self.combs, 300))
        self.assertEqual(self.answers(book), wanted)

    def test_each_deed_is_seen_at_once_and_each_taking_back(self):
        book = book_of({"a": [0, 2]})
        self.assertEqual((shape_steps(book, 0), shapes_at(book, 1)), ([("a", 2)], [2]))
        book.add_tooth("a", 1)
        self.assertEqual((shape_steps(book, 0), shapes_at(book, 1)), ([("a", 3)], [3]))
        book.put("b", [0])
        self.assertEqual((shape_steps(book, 0), shapes_at(book, 1)), ([("a", 3), ("b", 0)], [0, 3]))
        book.drop("a")
        self.assertEqual((shape_steps(book, 0), shapes_at(book, 1)), ([("b", 0)], [0]))
        book.undo(), book.undo(), book.undo()
        self.assertEqual((shape_steps(book, 0), shapes_at(book, 1)), ([("a", 2)], [2]))

    def test_a_question_changes_nothing_whether_it_is_answered_or_refused(self):
        book = book_of(self.combs)
        wanted = self.answers(book)
        for ask, number in [(shape_steps, -1), (shape_steps, 128), (shapes_at, -1), (shapes_at, 201)]:
            self.assertRaises(errors.CombError, ask, book, number)
        self.assertEqual((combs_of(book), book.deeds()), (self.combs, 4))
        self.assertEqual(self.answers(book), wanted)

    def test_told_lists_are_the_askers_own(self):
        book = book_of(self.combs)
        wanted = self.answers(book)
        for told in self.answers(book):
            for answer in told:
                answer.append("changed")
                answer[0] = "changed"
        self.assertEqual(self.answers(book), wanted)
        self.assertEqual(self.answers(book_of(self.combs)), wanted)
        self.assertEqual(combs_of(book), self.combs)

    def test_two_books_side_by_side(self):
        one, other = book_of({"a": [0, 2]}), book_of({"a": [0, 3]})
        for ask in range(2):
            self.assertEqual((shape_steps(one, 0), shapes_at(one, 1)), ([("a", 2)], [2]))
            self.assertEqual((shape_steps(other, 0), shapes_at(other, 1)), ([("a", 4)], [4]))


if __name__ == "__main__":
    unittest.main()
