import unittest

from combstrip import errors

REFUSALS = [
    "BadName",
    "BadTeeth",
    "NameTaken",
    "BookFull",
    "NoComb",
    "BadTooth",
    "ToothThere",
    "FirstTooth",
    "ToothMissing",
    "DeedsFull",
    "NothingDone",
    "BadShape",
    "BadPlace",
    "BadLength",
    "NoFilling",
]


class TestErrors(unittest.TestCase):
    def test_comb_error_stands_straight_under_value_error(self):
        self.assertEqual(errors.CombError.__bases__, (ValueError,))

    def test_each_refusal_stands_straight_under_comb_error(self):
        self.assertEqual(len(REFUSALS), 15)
        for name in REFUSALS:
            with self.subTest(name=name):
                refusal = getattr(errors, name)
                self.assertEqual(refusal.__bases__, (errors.CombError,))

    def test_each_class_bears_its_own_name(self):
        for name in REFUSALS + ["CombError"]:
            with self.subTest(name=name):
                self.assertEqual(getattr(errors, name).__name__, name)

    def test_no_two_names_are_the_same_class(self):
        classes = [getattr(errors, name) for name in REFUSALS + ["CombError"]]
        self.assertEqual(len(set(classes)), 16)

    def test_a_refusal_is_taken_by_its_own_name_and_by_no_other(self):
        for name in REFUSALS:
            refusal = getattr(errors, name)()
            takers = [other for other in REFUSALS if isinstance(refusal, getattr(errors, other))]
            with self.subTest(name=name):
                self.assertEqual(takers, [name])

    def test_a_refusal_can_be_raised_with_words_and_without(self):
        for name in REFUSALS:
            refusal = getattr(errors, name)
            with self.subTest(name=name):
                with self.assertRaises(errors.CombError):
                    raise refusal("words")
                with self.assertRaises(ValueError):
                    raise refusal()


if __name__ == "__main__":
    unittest.main()
