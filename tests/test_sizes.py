import unittest

from combstrip import sizes

VALUES = {
    "MOST_COMBS": 8,
    "MOST_NAME": 6,
    "MOST_TOOTH": 7,
    "MOST_DEEDS": 300,
    "SHAPES": 128,
    "MOST_SHAPED": 200,
    "MOST_LENGTH": 10 ** 12,
    "MOST_FILLED": 200,
    "MOST_PLACE": 10 ** 18,
}


class TestSizes(unittest.TestCase):
    def test_each_whole_number_has_its_value(self):
        self.assertEqual(len(VALUES), 9)
        for name, value in VALUES.items():
            with self.subTest(name=name):
                self.assertEqual(getattr(sizes, name), value)

    def test_each_is_a_whole_number(self):
        for name in VALUES:
            with self.subTest(name=name):
                self.assertIs(type(getattr(sizes, name)), int)


if __name__ == "__main__":
    unittest.main()
