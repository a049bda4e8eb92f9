import unittest

from hillcut.errors import HillError, NoHill, NoPlace, NoRing

REFUSALS = (NoHill, NoRing, NoPlace)


class Errors(unittest.TestCase):
    def test_any_refusal_is_a_value_error(self):
        self.assertEqual(HillError.__bases__, (ValueError,))
        with self.assertRaises(ValueError):
            raise HillError("words")

    def test_each_refusal_stands_straight_under_hill_error(self):
        for refusal in REFUSALS:
            with self.subTest(refusal=refusal.__name__):
                self.assertEqual(refusal.__bases__, (HillError,))
                with self.assertRaises(HillError):
                    raise refusal("words")

    def test_no_refusal_is_taken_for_another(self):
        for one in REFUSALS:
            for other in REFUSALS:
                self.assertEqual(issubclass(one, other), one.__name__ == other.__name__)
            self.assertFalse(issubclass(HillError, one))

    def test_names(self):
        names = [kind.__name__ for kind in (HillError,) + REFUSALS]
        self.assertEqual(names, ["HillError", "NoHill", "NoRing", "NoPlace"])

    def test_an_error_keeps_its_words(self):
        for kind in (HillError,) + REFUSALS:
            self.assertEqual(str(kind("some words")), "some words")


if __name__ == "__main__":
    unittest.main()
