import unittest

from foldrows.errors import FoldError, NoHeight, NoThing


class ErrorClasses(unittest.TestCase):
    def test_every_refusal_is_a_value_error(self):
        self.assertEqual(FoldError.__bases__, (ValueError,))

    def test_each_refusal_stands_right_under_fold_error(self):
        self.assertEqual(NoThing.__bases__, (FoldError,))
        self.assertEqual(NoHeight.__bases__, (FoldError,))

    def test_the_refusals_are_told_apart(self):
        self.assertFalse(issubclass(NoThing, NoHeight))
        self.assertFalse(issubclass(NoHeight, NoThing))

    def test_each_is_raised_with_words_of_its_own(self):
        for error in (FoldError, NoThing, NoHeight):
            with self.subTest(error=error.__name__):
                with self.assertRaises(FoldError) as caught:
                    raise error("some words")
                self.assertIs(caught.exception.__class__, error)
                self.assertEqual(str(caught.exception), "some words")


if __name__ == "__main__":
    unittest.main()
