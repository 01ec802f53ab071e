"""Points 2, 3 and 12 for every question about shapes and planks: what an answer hangs on, and whose own it is."""

import itertools
import os
import pathlib
import random
import subprocess
import sys
import unittest

from combstrip import errors
from combstrip.book import Book
from combstrip.far import comb_over_line, comb_over_strip
from combstrip.fillings import count_fillings, count_fillings_with, first_filling, first_filling_with
from combstrip.lengths import fits_flush, flush_lengths
from combstrip.line import fill_line
from combstrip.shapes import shape_steps, shapes_at
from combstrip.strip import fill_strip
from helper import book_of, by_other_deeds, combs_of, full_of_deeds, some_combs

TOP = pathlib.Path(__file__).resolve().parent.parent

# Books of all kinds: all planks filled, no plank with two ends filled, the line alone filled, none filled.
BOOKS = [
    {"b": [0], "a": [0, 1, 3], "ab": [0, 7]},
    {"b": [0, 2], "a": [0, 2]},
    {"a": [0, 4, 6], "b": [0, 3, 7], "c": [0, 2, 3, 5, 7]},
    {"a": [0, 1, 3, 6, 7], "b": [0, 1, 2, 4, 5, 7], "c": [0, 7], "d": [0, 1, 2, 4, 5]},
    {"a": [0, 2, 7], "b": [0, 2, 5]},
    {"a": [0, 1, 5]},
    {"a": [0, 1, 3], "b": [0, 2, 3]},
]

# Each question, with what is handed in beside the book. Some of it is out of bounds: then it is refused.
QUESTIONS = [(fill_strip,), (fill_line,), (flush_lengths,)]
QUESTIONS += [(shape_steps, shape) for shape in (-1, 0, 1, 2, 64, 127, 128)]
QUESTIONS += [(shapes_at, place) for place in (-1, 0, 1, 9, 200, 201)]
QUESTIONS += [(fits_flush, length) for length in (-1, 0, 1, 14, 951, 10 ** 12, 10 ** 12 + 1)]
QUESTIONS += [(ask, length) for ask in (first_filling, count_fillings) for length in (-1, 0, 4, 30, 201)]
QUESTIONS += [
    (ask, name, length)
    for ask in (first_filling_with, count_fillings_with)
    for name in ("a", "b", "nobody")
    for length in (0, 30, 201)
]
QUESTIONS += [(first_filling_with, "a", 200)]
QUESTIONS += [(comb_over_strip, place) for place in (-1, 0, 7, 10 ** 18, 10 ** 18 + 1)]
QUESTIONS += [(comb_over_line, place) for place in (-10 ** 18 - 1, -10 ** 18, -3, 0, 10 ** 18, 10 ** 18 + 1)]


def answer_of(book, question):
    """What is told, or the class of the refusal."""
    try:
        return question[0](book, *question[1:])
    except errors.CombError as refusal:
        return type(refusal)


def all_answers(book):
    return [answer_of(book, question) for question in QUESTIONS]


def lists_within(answer):
    """Each list of an answer, the inner ones first."""
    found = []
    if isinstance(answer, (list, tuple)):
        for part in answer:
            found += lists_within(part)
    if isinstance(answer, list):
        found.append(answer)
    return found


def spoil(answer):
    for told in lists_within(answer):
        told.append("changed")
        told[0] = "changed"
        told.reverse()


def some_deed(book, chance):
    name = chance.choice(["a", "b", "c", "x"])
    deeds = [(book.put, name, [0] + chance.sample(range(1, 8), chance.randint(0, 4)))]
    deeds += [(book.drop, name), (book.add_tooth, name, chance.randint(0, 7)), (book.take_off, name, chance.randint(0, 7))]
    deed = chance.choice(deeds)
    return deed[0](*deed[1:])


class QuestionsCase(unittest.TestCase):
    def check(self, book, wanted, words=""):
        for question, told in zip(QUESTIONS, wanted):
            self.assertEqual(answer_of(book, question), told, (words, question[0].__name__, question[1:]))


class TestTheQuestions(QuestionsCase):
    def test_each_is_answered_and_refused(self):
        """The books above bring about each refusal that a question can meet, and an answer of each question."""
        met = set()
        for combs in BOOKS + [{}]:
            for question, told in zip(QUESTIONS, all_answers(book_of(combs))):
                met.add((question[0].__name__, told.__name__ if isinstance(told, type) else "answered"))
        wanted = [(question[0].__name__, "answered") for question in QUESTIONS]
        wanted += [("shape_steps", "BadShape"), ("shapes_at", "BadPlace"), ("fits_flush", "BadLength")]
        wanted += [("first_filling", "BadLength"), ("first_filling", "NoFilling"), ("count_fillings", "BadLength")]
        wanted += [("first_filling_with", "NoComb"), ("first_filling_with", "BadLength")]
        wanted += [("first_filling_with", "NoFilling"), ("count_fillings_with", "NoComb")]
        wanted += [("count_fillings_with", "BadLength"), ("comb_over_strip", "BadPlace")]
        wanted += [("comb_over_strip", "NoFilling"), ("comb_over_line", "BadPlace"), ("comb_over_line", "NoFilling")]
        self.assertEqual(met, set(wanted))


class TestOwnLists(QuestionsCase):
    def test_a_told_list_that_is_changed_changes_no_later_answer(self):
        for combs in BOOKS + [{}]:
            wanted = all_answers(book_of(combs))
            book = book_of(combs)
            for question in QUESTIONS:
                spoil(answer_of(book, question))
                self.assertEqual(combs_of(book), combs)
            self.check(book, wanted)
            self.check(book_of(combs), wanted)

    def test_no_list_is_told_twice(self):
        for combs in BOOKS + [{}]:
            book = book_of(combs)
            told = lists_within(all_answers(book) + all_answers(book) + [book.names(), book.names()])
            self.assertEqual(len(set(id(one) for one in told)), len(told))

    def test_a_told_list_stays_as_it_is_when_the_book_changes(self):
        for combs in BOOKS:
            book = book_of(combs)
            told, wanted = all_answers(book), all_answers(book_of(combs))
            book.add_tooth("a", [tooth for tooth in range(8) if tooth not in combs["a"]][0])
            book.put("x", [0])
            all_answers(book)
            self.assertEqual(told, wanted)


class TestNothingIsChanged(QuestionsCase):
    def test_a_question_changes_nothing(self):
        for combs in BOOKS + [{}]:
            book = book_of(combs)
            wanted = all_answers(book_of(combs))
            for question in QUESTIONS + QUESTIONS[::-1]:
                answer_of(book, question)
                self.assertEqual((combs_of(book), book.deeds()), (combs, len(combs)))
            self.check(book, wanted)

    def test_each_question_asked_first_and_asked_twice(self):
        for combs in BOOKS:
            for question, wanted in zip(QUESTIONS, all_answers(book_of(combs))):
                book = book_of(combs)
                self.assertEqual(answer_of(book, question), wanted)
                self.assertEqual(answer_of(book, question), wanted)

    def test_a_refused_deed_changes_no_answer(self):
        for combs in BOOKS:
            book = book_of(combs)
            wanted = all_answers(book)
            missing = [tooth for tooth in range(8) if tooth not in combs["a"]][0]
            deeds = [(book.put, "a", [0]), (book.put, "x", [1]), (book.put, "X", [0]), (book.drop, "x")]
            deeds += [(book.add_tooth, "a", 0), (book.add_tooth, "a", 8), (book.add_tooth, "x", 1)]
            deeds += [(book.take_off, "a", 0), (book.take_off, "a", missing), (book.take_off, "a", -1)]
            for deed in deeds:
                self.assertRaises(errors.CombError, *deed)
            self.check(book, wanted)

    def test_two_books_side_by_side(self):
        for one, other in zip(BOOKS, BOOKS[1:] + [{}]):
            books = [book_of(one), book_of(other)]
            wanted = [all_answers(book_of(one)), all_answers(book_of(other))]
            for question, told in zip(QUESTIONS, zip(*wanted)):
                self.assertEqual(tuple(answer_of(book, question) for book in books), told)
            books[0].put("x", [0])
            self.check(books[1], wanted[1])


class TestWhatTheAnswersHangOn(QuestionsCase):
    def test_another_order(self):
        for combs in BOOKS:
            wanted = all_answers(book_of(combs))
            for order in itertools.islice(itertools.permutations(combs), 24):
                self.check(book_of({name: combs[name][::-1] for name in order}), wanted, order)

    def test_eight_combs_in_other_orders(self):
        chance = random.Random(5)
        combs = dict(zip("abcdefgh", ([0, 7], [0, 6, 7], [0, 5], [0, 3, 4], [0, 2], [0, 1, 4], [0, 1], [0, 4])))
        wanted = all_answers(book_of(combs))
        for turn in range(6):
            self.check(book_of({name: combs[name] for name in chance.sample(sorted(combs), 8)}), wanted)

    def test_other_deeds(self):
        for combs in BOOKS:
            wanted = all_answers(book_of(combs))
            book = by_other_deeds(combs)
            self.assertEqual(combs_of(book), combs)
            self.check(book, wanted)
            book.put("aa", [0])
            self.assertNotEqual(all_answers(book), wanted)
            book.drop("aa")
            self.check(book, wanted)

    def test_a_book_full_of_deeds(self):
        # The comb that is changed and changed back stands as it stood, as the number of deeds left is even.
        combs = {"a": [0, 2, 7], "b": [0, 2, 5]}
        book = full_of_deeds(book_of(combs))
        self.assertEqual((combs_of(book), book.deeds()), (combs, 300))
        self.check(book, all_answers(book_of(combs)))

    def test_the_names_alone_make_other_answers(self):
        one, other = book_of({"a": [0], "b": [0, 1]}), book_of({"b": [0], "a": [0, 1]})
        for ask in [(first_filling, 5), (fill_strip,), (comb_over_strip, 1), (first_filling_with, "b", 5)]:
            self.assertNotEqual(answer_of(one, ask), answer_of(other, ask))
        self.assertEqual(flush_lengths(one), flush_lengths(other))
        self.assertEqual(count_fillings(one, 30), count_fillings(other, 30))

    def test_other_runs_of_the_program(self):
        """Python gives texts other hash values in every run, and nothing may hang on them."""
        told = set()
        for seed in ["0", "1", "2"]:
            code = "import test_questions as t; print([t.all_answers(t.book_of(combs)) for combs in t.BOOKS])"
            places = os.pathsep.join([str(TOP), str(TOP / "tests")])
            setting = dict(os.environ, PYTHONHASHSEED=seed, PYTHONPATH=places, PYTHONDONTWRITEBYTECODE="1")
            run = subprocess.run([sys.executable, "-c", code], env=setting, capture_output=True, text=True, check=True)
            told.add(run.stdout)
        self.assertEqual(told, {str([all_answers(book_of(combs)) for combs in BOOKS]) + "\n"})


class TestDeedsTakenBack(QuestionsCase):
    def test_deeds_taken_back_bring_back_every_answer(self):
        for combs in BOOKS:
            book = book_of(combs)
            wanted = [all_answers(book)]
            teeth = [tooth for tooth in range(8) if tooth not in combs["a"]]
            deeds = [(book.add_tooth, "a", teeth[0]), (book.put, "x", [0, 5]), (book.take_off, "x", 5)]
            deeds += [(book.drop, "a"), (book.put, "a", [0, 1]), (book.drop, "x")]
            for deed in deeds:
                deed[0](*deed[1:])
                wanted.append(all_answers(book))
            self.assertNotEqual(wanted[0], wanted[-1])
            while len(wanted) > 1:
                self.check(book, wanted.pop())
                book.undo()
            self.check(book, wanted.pop())

    def test_many_deeds_at_hazard(self):
        for seed in range(3):
            chance = random.Random(seed)
            book, wanted = Book(), [all_answers(Book())]
            for call in range(80):
                try:
                    some_deed(book, chance)
                except errors.CombError:
                    continue
                wanted.append(all_answers(book))
                self.check(book_of(combs_of(book)), wanted[-1])
            self.assertGreater(len(wanted), 10)
            while len(wanted) > 1:
                self.check(book, wanted.pop())
                self.assertEqual(book.undo(), len(wanted) - 1)
            self.check(book, wanted.pop())
            self.assertRaises(errors.NothingDone, book.undo)


class TestManyBooks(QuestionsCase):
    def test_the_same_combs_in_two_books(self):
        for seed in range(25):
            combs = some_combs(seed)
            turned = {name: combs[name][::-1] for name in reversed(list(combs))}
            self.check(book_of(turned), all_answers(book_of(combs)), combs)


if __name__ == "__main__":
    unittest.main()
