import random
import unittest

from combstrip import errors
from combstrip.book import Book
from helper import book_of, combs_of, full_of_deeds

EIGHT = {"a": [0], "b": [0, 1], "c": [0, 2], "d": [0, 3], "e": [0, 4], "f": [0, 5], "g": [0, 6], "h": [0, 7]}

# Texts that are no names: each is refused with BadName by put and with NoComb everywhere else.
NO_NAMES = ["", " ", "A", "a ", " a", "a1", "a_b", "abcdefg", "`", "{", "~" * 40, "a" * 40]

OUT_OF_BOUNDS = [-1, 8, -2, 9, 100, -10 ** 40, 10 ** 40]


class BookCase(unittest.TestCase):
    def refused(self, refusal, book, deed, *handed):
        """The deed is refused with this class, and neither the book nor what was handed in is changed."""
        combs, deeds = combs_of(book), book.deeds()
        copies = [list(value) if isinstance(value, list) else value for value in handed]
        with self.subTest(deed=deed, handed=handed):
            with self.assertRaises(errors.CombError) as caught:
                getattr(book, deed)(*handed)
            self.assertIs(type(caught.exception), refusal)
            self.assertEqual(combs_of(book), combs)
            self.assertEqual(book.deeds(), deeds)
            self.assertEqual(list(handed), copies)


class TestNamesAndTeeth(BookCase):
    def test_a_book_is_empty_when_it_is_made(self):
        book = Book()
        self.assertEqual(book.names(), [])
        self.assertEqual(book.deeds(), 0)

    def test_names_stand_in_their_order(self):
        book = Book()
        for name in ["b", "ab", "zz", "a", "aa", "z", "aab", "zzzzzz"]:
            book.put(name, [0])
        self.assertEqual(book.names(), ["a", "aa", "aab", "ab", "b", "z", "zz", "zzzzzz"])

    def test_teeth_rise_in_whatever_order_they_were_handed_in(self):
        book = Book()
        book.put("a", [7, 3, 0, 5])
        book.put("b", [7, 6, 5, 4, 3, 2, 1, 0])
        book.put("c", [0])
        self.assertEqual(book.teeth("a"), [0, 3, 5, 7])
        self.assertEqual(book.teeth("b"), [0, 1, 2, 3, 4, 5, 6, 7])
        self.assertEqual(book.teeth("c"), [0])

    def test_two_combs_with_the_same_teeth_are_two(self):
        book = book_of({"b": [0, 2], "a": [2, 0]})
        self.assertEqual(book.names(), ["a", "b"])
        book.take_off("a", 2)
        self.assertEqual(combs_of(book), {"a": [0], "b": [0, 2]})

    def test_teeth_of_a_comb_that_is_not_there(self):
        for book in [Book(), book_of({"b": [0]}), book_of(EIGHT)]:
            for text in ["bb", "c" * 6, "i"] + NO_NAMES:
                self.refused(errors.NoComb, book, "teeth", text)

    def test_the_kinds_of_the_answers(self):
        book = book_of({"a": (0, 1)})
        self.assertIs(type(book.names()), list)
        self.assertIs(type(book.teeth("a")), list)
        self.assertIs(type(book.deeds()), int)
        answers = [book.put("b", [0]), book.add_tooth("b", 3), book.take_off("b", 3), book.drop("b"), book.undo()]
        self.assertEqual(answers, [2, 3, 4, 5, 4])
        for answer in answers:
            self.assertIs(type(answer), int)


class TestPut(BookCase):
    def test_combs_are_put_in_and_counted(self):
        book = Book()
        for number, name in enumerate(sorted(EIGHT), start=1):
            self.assertEqual(book.put(name, EIGHT[name]), number)
            self.assertEqual(book.deeds(), number)
        self.assertEqual(combs_of(book), EIGHT)

    def test_the_edges_of_names_and_teeth(self):
        book = Book()
        self.assertEqual(book.put("z", [0]), 1)
        self.assertEqual(book.put("zzzzzz", [7, 0]), 2)
        self.assertEqual(combs_of(book), {"z": [0], "zzzzzz": [0, 7]})

    def test_texts_that_are_no_names(self):
        for text in NO_NAMES:
            self.refused(errors.BadName, Book(), "put", text, [0])

    def test_lists_that_are_no_teeth(self):
        lists = [[], [1], [1, 2], [0, 0], [0, 1, 1], [0, -1], [-1], [0, 8], [8], [0, 10 ** 40], list(range(20))]
        for teeth in lists:
            self.refused(errors.BadTeeth, Book(), "put", "a", teeth)

    def test_a_name_that_is_taken(self):
        book = book_of({"a": [0, 1]})
        self.refused(errors.NameTaken, book, "put", "a", [0, 1])
        self.refused(errors.NameTaken, book, "put", "a", [0])

    def test_a_ninth_comb(self):
        book = book_of(EIGHT)
        self.refused(errors.BookFull, book, "put", "i", [0])
        book.drop("c")
        self.assertEqual(book.put("i", [0]), 10)
        self.refused(errors.BookFull, book, "put", "c", [0])

    def test_the_order_of_the_refusals(self):
        book = full_of_deeds(book_of(EIGHT))
        self.refused(errors.BadName, book, "put", "", [])
        self.refused(errors.BadName, book, "put", "A", [0])
        self.refused(errors.BadTeeth, book, "put", "a", [1])
        self.refused(errors.BadTeeth, book, "put", "i", [0, 0])
        self.refused(errors.NameTaken, book, "put", "a", [0])
        self.refused(errors.BookFull, book, "put", "i", [0])
        book = full_of_deeds(book_of({"a": [0]}))
        self.refused(errors.BadName, book, "put", "", [])
        self.refused(errors.BadTeeth, book, "put", "a", [1])
        self.refused(errors.NameTaken, book, "put", "a", [0])
        self.refused(errors.DeedsFull, book, "put", "i", [0])

    def test_the_order_of_the_refusals_ahead_of_300_deeds(self):
        book = book_of(EIGHT)
        self.refused(errors.BadName, book, "put", "a b", [1])
        self.refused(errors.BadTeeth, book, "put", "a", [])
        self.refused(errors.NameTaken, book, "put", "h", [0, 7])


class TestDrop(BookCase):
    def test_a_comb_is_dropped_and_its_name_is_free_again(self):
        book = book_of({"a": [0, 1], "b": [0]})
        self.assertEqual(book.drop("a"), 3)
        self.assertEqual(combs_of(book), {"b": [0]})
        self.refused(errors.NoComb, book, "teeth", "a")
        self.assertEqual(book.put("a", [0, 5]), 4)
        self.assertEqual(combs_of(book), {"a": [0, 5], "b": [0]})

    def test_the_last_comb_can_be_dropped(self):
        book = book_of({"a": [0]})
        self.assertEqual(book.drop("a"), 2)
        self.assertEqual(book.names(), [])

    def test_a_comb_that_is_not_there(self):
        self.refused(errors.NoComb, Book(), "drop", "a")
        book = book_of({"a": [0]})
        for text in ["b", "aa"] + NO_NAMES:
            self.refused(errors.NoComb, book, "drop", text)

    def test_the_order_of_the_refusals(self):
        book = full_of_deeds(book_of({"a": [0]}))
        self.refused(errors.NoComb, book, "drop", "b")
        self.refused(errors.NoComb, book, "drop", "")
        self.refused(errors.DeedsFull, book, "drop", "a")


class TestAddTooth(BookCase):
    def test_every_tooth_can_be_added(self):
        book = book_of({"a": [0], "b": [0]})
        for number, tooth in enumerate([7, 3, 1, 5, 2, 6, 4], start=3):
            self.assertEqual(book.add_tooth("a", tooth), number)
            self.assertIn(tooth, book.teeth("a"))
            self.assertEqual(book.teeth("a"), sorted(book.teeth("a")))
        self.assertEqual(combs_of(book), {"a": [0, 1, 2, 3, 4, 5, 6, 7], "b": [0]})

    def test_a_comb_that_is_not_there(self):
        for text in ["b"] + NO_NAMES:
            self.refused(errors.NoComb, book_of({"a": [0]}), "add_tooth", text, 1)

    def test_a_tooth_out_of_bounds(self):
        for tooth in OUT_OF_BOUNDS:
            self.refused(errors.BadTooth, book_of({"a": [0]}), "add_tooth", "a", tooth)

    def test_a_tooth_that_is_there(self):
        book = book_of({"a": [0, 4, 7]})
        for tooth in [0, 4, 7]:
            self.refused(errors.ToothThere, book, "add_tooth", "a", tooth)

    def test_the_order_of_the_refusals(self):
        for book in [book_of({"a": [0, 4]}), full_of_deeds(book_of({"a": [0, 4]}))]:
            self.refused(errors.NoComb, book, "add_tooth", "b", -1)
            self.refused(errors.NoComb, book, "add_tooth", "", 8)
            self.refused(errors.BadTooth, book, "add_tooth", "a", -1)
            self.refused(errors.BadTooth, book, "add_tooth", "a", 8)
            self.refused(errors.ToothThere, book, "add_tooth", "a", 4)
        self.refused(errors.DeedsFull, book, "add_tooth", "a", 5)


class TestTakeOff(BookCase):
    def test_every_tooth_but_the_first_can_be_taken_off(self):
        book = book_of({"a": range(8), "b": [0, 3]})
        left = list(range(8))
        for number, tooth in enumerate([3, 7, 1, 2, 6, 5, 4], start=3):
            self.assertEqual(book.take_off("a", tooth), number)
            left.remove(tooth)
            self.assertEqual(book.teeth("a"), left)
        self.assertEqual(combs_of(book), {"a": [0], "b": [0, 3]})

    def test_a_comb_that_is_not_there(self):
        for text in ["b"] + NO_NAMES:
            self.refused(errors.NoComb, book_of({"a": [0, 1]}), "take_off", text, 1)

    def test_a_tooth_out_of_bounds(self):
        for tooth in OUT_OF_BOUNDS:
            self.refused(errors.BadTooth, book_of({"a": [0, 1]}), "take_off", "a", tooth)

    def test_the_first_tooth(self):
        self.refused(errors.FirstTooth, book_of({"a": [0]}), "take_off", "a", 0)
        self.refused(errors.FirstTooth, book_of({"a": [0, 1, 7]}), "take_off", "a", 0)

    def test_a_tooth_that_is_missing(self):
        book = book_of({"a": [0, 4]})
        for tooth in [1, 2, 3, 5, 6, 7]:
            self.refused(errors.ToothMissing, book, "take_off", "a", tooth)

    def test_the_order_of_the_refusals(self):
        for book in [book_of({"a": [0, 4]}), full_of_deeds(book_of({"a": [0, 4]}))]:
            self.refused(errors.NoComb, book, "take_off", "b", -1)
            self.refused(errors.NoComb, book, "take_off", "", 0)
            self.refused(errors.BadTooth, book, "take_off", "a", -1)
            self.refused(errors.BadTooth, book, "take_off", "a", 8)
            self.refused(errors.FirstTooth, book, "take_off", "a", 0)
            self.refused(errors.ToothMissing, book, "take_off", "a", 5)
        self.refused(errors.DeedsFull, book, "take_off", "a", 4)


class TestDeeds(BookCase):
    def test_questions_refused_deeds_and_takings_back_are_not_counted(self):
        book = book_of({"a": [0, 1]})
        book.names(), book.teeth("a"), book.deeds()
        self.refused(errors.NameTaken, book, "put", "a", [0])
        self.assertEqual(book.deeds(), 1)
        self.assertEqual(book.add_tooth("a", 2), 2)
        self.assertEqual(book.undo(), 1)
        self.assertEqual(book.deeds(), 1)
        self.assertEqual(book.drop("a"), 2)

    def test_300_deeds_and_one_more(self):
        book = book_of({"a": [0, 4], "b": [0]})
        for number in range(3, 301):
            answer = book.add_tooth("a", 2) if number % 2 else book.take_off("a", 2)
            self.assertEqual(answer, number)
        self.assertEqual(book.deeds(), 300)
        self.refused(errors.DeedsFull, book, "put", "c", [0])
        self.refused(errors.DeedsFull, book, "drop", "b")
        self.refused(errors.DeedsFull, book, "add_tooth", "a", 2)
        self.refused(errors.DeedsFull, book, "take_off", "a", 4)

    def test_a_deed_is_free_again_once_one_is_taken_back(self):
        book = full_of_deeds(book_of({"a": [0]}))
        self.assertEqual(book.undo(), 299)
        self.assertEqual(book.put("c", [0]), 300)
        self.refused(errors.DeedsFull, book, "drop", "c")
        self.assertEqual(book.undo(), 299)
        self.assertEqual(book.drop("a"), 300)


class TestUndo(BookCase):
    def test_each_deed_is_taken_back(self):
        book = book_of({"a": [0, 1], "b": [0]})
        book.drop("a")
        self.assertEqual(book.undo(), 2)
        self.assertEqual(combs_of(book), {"a": [0, 1], "b": [0]})
        book.add_tooth("a", 6)
        self.assertEqual(book.undo(), 2)
        self.assertEqual(combs_of(book), {"a": [0, 1], "b": [0]})
        book.take_off("a", 1)
        self.assertEqual(book.undo(), 2)
        self.assertEqual(combs_of(book), {"a": [0, 1], "b": [0]})
        self.assertEqual(book.undo(), 1)
        self.assertEqual(combs_of(book), {"a": [0, 1]})

    def test_a_taking_back_takes_back_no_taking_back(self):
        book = book_of({"a": [0], "b": [0], "c": [0]})
        self.assertEqual([book.undo(), book.undo(), book.undo()], [2, 1, 0])
        self.assertEqual(book.names(), [])

    def test_an_empty_book_has_nothing_to_take_back(self):
        self.refused(errors.NothingDone, Book(), "undo")

    def test_a_book_emptied_by_deeds_has_something_to_take_back(self):
        book = book_of({"a": [0]})
        book.drop("a")
        self.assertEqual(book.undo(), 1)
        self.assertEqual(book.names(), ["a"])

    def test_a_refused_deed_is_not_what_is_taken_back(self):
        book = book_of({"a": [0], "b": [0, 1]})
        self.refused(errors.ToothThere, book, "add_tooth", "b", 1)
        self.assertEqual(book.undo(), 1)
        self.assertEqual(combs_of(book), {"a": [0]})

    def test_back_from_300_deeds_to_the_empty_book_and_once_more(self):
        book = Book()
        states = [combs_of(book)]
        chance = random.Random(12)
        for call in range(3000):
            try:
                some_deed(book, chance)
            except errors.CombError:
                continue
            states.append(combs_of(book))
        self.assertEqual(len(states), 301)
        for left in reversed(range(300)):
            self.assertEqual(combs_of(book), states.pop())
            self.assertEqual(book.undo(), left)
        self.assertEqual(combs_of(book), states.pop())
        self.refused(errors.NothingDone, book, "undo")
        self.assertEqual(book.put("a", [0]), 1)


class TestOwnLists(BookCase):
    def test_a_handed_list_stays_and_may_be_changed_afterwards(self):
        book = Book()
        teeth = [5, 0, 2]
        book.put("a", teeth)
        self.assertEqual(teeth, [5, 0, 2])
        teeth.append(7)
        teeth[0] = 1
        self.assertEqual(book.teeth("a"), [0, 2, 5])
        book.put("b", teeth)
        book.add_tooth("b", 3)
        book.take_off("b", 1)
        self.assertEqual(teeth, [1, 0, 2, 7])
        self.assertEqual(combs_of(book), {"a": [0, 2, 5], "b": [0, 2, 3, 7]})

    def test_one_list_handed_in_twice_makes_two_combs(self):
        book, teeth = Book(), [0, 2]
        book.put("a", teeth)
        book.put("b", teeth)
        book.add_tooth("a", 3)
        self.assertEqual(combs_of(book), {"a": [0, 2, 3], "b": [0, 2]})

    def test_told_lists_are_the_askers_own(self):
        book = book_of({"a": [0, 2], "b": [0]})
        book.names().clear()
        book.names().append("c")
        book.teeth("a").append(5)
        book.teeth("a").clear()
        self.assertEqual(book.names(), ["a", "b"])
        self.assertEqual(book.teeth("a"), [0, 2])
        book.add_tooth("a", 3)
        book.teeth("a").clear()
        self.assertEqual(book.teeth("a"), [0, 2, 3])
        book.undo()
        book.teeth("a").clear()
        self.assertEqual(combs_of(book), {"a": [0, 2], "b": [0]})

    def test_a_told_list_stays_as_it_is_when_the_book_changes(self):
        book = book_of({"a": [0, 2]})
        names, teeth = book.names(), book.teeth("a")
        book.put("b", [0])
        book.add_tooth("a", 1)
        self.assertEqual(names, ["a"])
        self.assertEqual(teeth, [0, 2])

    def test_two_books_share_nothing(self):
        one, other = Book(), Book()
        teeth = [0, 2]
        one.put("a", teeth)
        self.assertEqual((other.names(), other.deeds()), ([], 0))
        other.put("a", teeth)
        other.add_tooth("a", 7)
        self.assertEqual(combs_of(one), {"a": [0, 2]})
        one.drop("a")
        self.assertEqual(combs_of(other), {"a": [0, 2, 7]})
        full_of_deeds(other)
        self.assertEqual(one.put("b", [0]), 3)
        self.assertEqual([one.undo(), one.undo(), one.undo()], [2, 1, 0])
        self.refused(errors.NothingDone, one, "undo")
        self.assertEqual(other.deeds(), 300)


def some_deed(book, chance):
    name, handed = some_call(chance)
    return getattr(book, name)(*handed)


def some_call(chance):
    text = chance.choice(sorted(EIGHT) + ["i", "j", "", "A"])
    tooth = chance.randint(-1, 8)
    deed = chance.choice(["put", "put", "drop", "add_tooth", "take_off"])
    if deed == "put":
        return deed, (text, chance.choice([[0], [3, 0], [0, 7, 1], [0, 0], [1], [0, 8]]))
    return deed, (text,) if deed == "drop" else (text, tooth)


def refusals_due(combs, deeds, deed, handed):
    """All refusals that are due, in the order that the document tells."""
    name = handed[0]
    teeth = combs.get(name, [])
    full = ("DeedsFull", deeds == 300)
    missing = ("NoComb", name not in combs)
    if deed == "put":
        good = [[0], [3, 0], [0, 7, 1]]
        table = [("BadName", name in ("", "A")), ("BadTeeth", handed[1] not in good), ("NameTaken", name in combs)]
        table += [("BookFull", len(combs) == 8), full]
    elif deed == "drop":
        table = [missing, full]
    else:
        tooth = handed[1]
        table = [missing, ("BadTooth", tooth in (-1, 8))]
        if deed == "add_tooth":
            table += [("ToothThere", tooth in teeth), full]
        else:
            table += [("FirstTooth", tooth == 0), ("ToothMissing", tooth not in teeth), full]
    return [refusal for refusal, due in table if due]


def combs_behind(combs, deed, handed):
    combs = {name: list(teeth) for name, teeth in combs.items()}
    if deed == "put":
        combs[handed[0]] = sorted(handed[1])
    elif deed == "drop":
        del combs[handed[0]]
    elif deed == "add_tooth":
        combs[handed[0]] = sorted(combs[handed[0]] + [handed[1]])
    else:
        combs[handed[0]].remove(handed[1])
    return combs


class TestManyDeeds(BookCase):
    """Many calls at hazard against a book that keeps every state whole."""

    def test_every_answer_and_every_refusal(self):
        met = set()
        for seed in range(6):
            chance = random.Random(seed)
            book, states = Book(), [{}]
            for call in range(2500):
                if chance.random() < 0.06 and len(states) > 1:
                    states.pop()
                    self.assertEqual(book.undo(), len(states) - 1)
                    self.assertEqual(combs_of(book), states[-1])
                    continue
                deed, handed = some_call(chance)
                due = refusals_due(states[-1], len(states) - 1, deed, handed)
                if due:
                    self.refused(getattr(errors, due[0]), book, deed, *handed)
                    met.add((deed, tuple(due)))
                    continue
                states.append(combs_behind(states[-1], deed, handed))
                self.assertEqual(getattr(book, deed)(*handed), len(states) - 1)
                self.assertEqual(combs_of(book), states[-1])
        firsts = set((deed, due[0]) for deed, due in met)
        self.assertEqual(len(firsts), 5 + 2 + 4 + 5)
        # Wherever DeedsFull is due with others, it stands behind each of them.
        with_full = set((deed, due[0]) for deed, due in met if "DeedsFull" in due)
        self.assertEqual(with_full, firsts)


if __name__ == "__main__":
    unittest.main()
