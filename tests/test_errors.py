"""sortweb.errors: the refusals."""

import unittest

from sortweb import errors

OF_A_TEXT = ["BadLines", "BadRow", "BadPlace", "BadOrder", "BadText", "NothingPut"]


class Refusals(unittest.TestCase):
    def test_web_error_stands_straight_under_value_error(self):
        self.assertEqual(errors.WebError.__bases__, (ValueError,))

    def test_the_others_stand_straight_under_web_error(self):
        for name in OF_A_TEXT + ["BadWeb"]:
            with self.subTest(name):
                self.assertEqual(getattr(errors, name).__bases__, (errors.WebError,))

    def test_none_is_another_one(self):
        classes = [getattr(errors, name) for name in OF_A_TEXT + ["BadWeb"]]
        for one in classes:
            self.assertEqual([other for other in classes if issubclass(one, other)], [one])

    def test_each_is_defined_in_errors_under_its_name(self):
        for name in OF_A_TEXT + ["BadWeb", "WebError"]:
            self.assertEqual(getattr(errors, name).__module__, "sortweb.errors")
            self.assertEqual(getattr(errors, name).__name__, name)

    def test_made_of_a_text(self):
        for name in OF_A_TEXT + ["WebError"]:
            for text in ("", "what is wrong"):
                self.assertEqual(str(getattr(errors, name)(text)), text)

    def test_each_is_caught_as_web_error_and_as_value_error(self):
        for name in OF_A_TEXT + ["BadWeb"]:
            for caught in (errors.WebError, ValueError):
                with self.assertRaises(caught):
                    raise getattr(errors, name)("a text")

    def test_bad_web_has_its_place(self):
        for place in (0, 1, 59, None):
            self.assertEqual(errors.BadWeb(place).place, place)
            self.assertIn("place", vars(errors.BadWeb(place)))

    def test_bad_web_needs_a_place(self):
        with self.assertRaises(TypeError):
            errors.BadWeb()

    def test_bad_web_makes_its_own_place(self):
        self.assertIn("__init__", vars(errors.BadWeb))


if __name__ == "__main__":
    unittest.main()
