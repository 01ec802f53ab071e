import itertools
import unittest

from combstrip.combs import are_teeth, is_name

LETTERS = "abcdefghijklmnopqrstuvwxyz"

# Every sign that a text may have and that is no small letter; the per cent sign is never handed in.
OTHER_SIGNS = [chr(code) for code in range(ord(" "), ord("~") + 1) if chr(code) not in LETTERS + "%"]


def good_teeth():
    good = set()
    for size in range(8):
        for behind in itertools.combinations(range(1, 8), size):
            good.add((0,) + behind)
    return good


class TestIsName(unittest.TestCase):
    def check(self, text, answer):
        with self.subTest(text=text):
            self.assertIs(is_name(text), answer)

    def test_ordinary_names(self):
        for text in ["a", "z", "oak", "rake", "aaaaaa", "zzzzzz", "abcdef", "uvwxyz"]:
            self.check(text, True)

    def test_every_letter_at_every_place(self):
        for size in range(1, 7):
            for place in range(size):
                for letter in LETTERS:
                    self.check("m" * place + letter + "m" * (size - place - 1), True)

    def test_the_empty_text(self):
        self.check("", False)

    def test_texts_that_are_too_long(self):
        self.check("abcdefg", False)
        for size in range(7, 41):
            self.check("a" * size, False)
            self.check("z" * size, False)

    def test_a_text_of_40_other_signs(self):
        self.check(" " * 40, False)
        self.check("abc " * 10, False)

    def test_the_signs_beside_the_letters_are_among_the_others(self):
        for sign in "`{ AZ09":
            self.assertIn(sign, OTHER_SIGNS)
        self.assertEqual(len(OTHER_SIGNS), 95 - 26 - 1)

    def test_one_sign_that_is_no_small_letter_at_every_place(self):
        for size in range(1, 7):
            for place in range(size):
                for sign in OTHER_SIGNS:
                    self.check("m" * place + sign + "m" * (size - place - 1), False)

    def test_no_small_letter_at_all(self):
        for text in ["ABC", "123456", "      ", "``", "{{{"]:
            self.check(text, False)


class TestAreTeeth(unittest.TestCase):
    def check(self, teeth, answer):
        handed = list(teeth)
        with self.subTest(teeth=teeth):
            self.assertIs(are_teeth(handed), answer)
            self.assertEqual(handed, list(teeth))

    def test_the_first_tooth_alone(self):
        self.check([0], True)

    def test_all_eight_teeth_in_several_orders(self):
        self.check([0, 1, 2, 3, 4, 5, 6, 7], True)
        self.check([7, 6, 5, 4, 3, 2, 1, 0], True)
        self.check([3, 7, 0, 5, 1, 6, 2, 4], True)

    def test_every_good_list_rising_falling_and_turned(self):
        self.assertEqual(len(good_teeth()), 128)
        for teeth in good_teeth():
            self.check(teeth, True)
            self.check(teeth[::-1], True)
            self.check(teeth[1:] + teeth[:1], True)

    def test_the_empty_list(self):
        self.check([], False)

    def test_lists_without_the_first_tooth(self):
        for teeth in good_teeth():
            self.check(teeth[1:], False)

    def test_a_tooth_twice(self):
        for teeth in good_teeth():
            for tooth in teeth:
                self.check(teeth + (tooth,), False)
                self.check((tooth,) + teeth, False)

    def test_one_number_out_of_bounds_at_every_place(self):
        for good in [(0,), (0, 3), (5, 0, 2), (0, 1, 2, 3, 4, 5, 6), (0, 1, 2, 3, 4, 5, 6, 7)]:
            for number in [-1, -7, 8, 9, 10 ** 30, -10 ** 30, 10 ** 40, -10 ** 40]:
                for place in range(len(good) + 1):
                    self.check(good[:place] + (number,) + good[place:], False)

    def test_a_number_out_of_bounds_alone(self):
        for number in [-1, 1, 7, 8, 10 ** 30, -10 ** 30]:
            self.check([number], False)

    def test_lists_of_20_numbers(self):
        self.check(range(20), False)
        self.check([0] * 20, False)
        self.check([0, 1, 2, 3, 4, 5, 6, 7] + [0] * 12, False)
        self.check([1, 2, 3, 4] * 5, False)
        self.check(range(-10, 10), False)

    def test_all_short_lists(self):
        good = good_teeth()
        for size in range(5):
            for teeth in itertools.product(range(-1, 9), repeat=size):
                handed = list(teeth)
                self.assertIs(are_teeth(handed), tuple(sorted(teeth)) in good, teeth)
                self.assertEqual(handed, list(teeth))


if __name__ == "__main__":
    unittest.main()
