import unittest

from tintties.errors import (
    NoMeeting, NoName, NoStep, NoText, NotAlike, NotClean, NoTie, NotPlain, NotTwoSided, TintError, TooFew, TooGreat,
)

PLAIN = (NoStep, NotClean, NoTie, NotAlike, NoText, NoName, NoMeeting)
WITH_FIELD = (
    (NotTwoSided, "ring", (0, 1, 2)),
    (NotPlain, "pair", (3, 5)),
    (TooFew, "need", 7),
    (TooGreat, "most", 9),
)
ALL = PLAIN + tuple(made for made, field, value in WITH_FIELD)


class ErrorsTest(unittest.TestCase):
    def test_what_stands_under_what(self):
        self.assertEqual(TintError.__bases__, (ValueError,))
        for made in ALL:
            with self.subTest(made.__name__):
                self.assertEqual(made.__bases__, (TintError,))

    def test_none_stands_under_another(self):
        self.assertEqual(len(set(ALL)), 11)
        for one in ALL:
            for other in ALL:
                self.assertEqual(issubclass(one, other), one is other, (one, other))

    def test_fields(self):
        for made, field, value in WITH_FIELD:
            with self.subTest(made.__name__):
                error = made(value)
                self.assertEqual(getattr(error, field), value)
                self.assertEqual(vars(error), {field: value})

    def test_a_field_is_the_object_s_own(self):
        for made, field, value in WITH_FIELD:
            with self.subTest(made.__name__):
                first = made(value)
                second = made(value * 2)
                self.assertEqual(getattr(first, field), value)
                self.assertEqual(getattr(second, field), value * 2)
                self.assertFalse(hasattr(made, field))

    def test_a_field_is_asked_for(self):
        for made, field, value in WITH_FIELD:
            with self.subTest(made.__name__):
                with self.assertRaises(TypeError):
                    made()

    def test_made_without_words_and_with(self):
        for made in (TintError,) + PLAIN:
            with self.subTest(made.__name__):
                self.assertIsInstance(made(), made)
                self.assertIsInstance(made("words"), made)

    def test_raised_and_taken(self):
        for made in PLAIN:
            with self.subTest(made.__name__):
                with self.assertRaises(TintError):
                    raise made()
        for made, field, value in WITH_FIELD:
            with self.subTest(made.__name__):
                with self.assertRaises(TintError) as taken:
                    raise made(value)
                self.assertEqual(getattr(taken.exception, field), value)


if __name__ == "__main__":
    unittest.main()
