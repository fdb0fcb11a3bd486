import unittest

from freshbook import errors

OTHERS = ("NoDesk", "NoThing", "NoClock", "NoAnswer", "Stopped", "NoLine")


class ErrorsTest(unittest.TestCase):
    def test_fresh_error_stands_under_value_error(self):
        self.assertEqual(errors.FreshError.__bases__, (ValueError,))

    def test_each_other_stands_under_fresh_error_alone(self):
        for name in OTHERS:
            with self.subTest(name):
                self.assertEqual(getattr(errors, name).__bases__, (errors.FreshError,))

    def test_none_of_the_others_stands_under_another(self):
        for name in OTHERS:
            for other in OTHERS:
                with self.subTest(name, other=other):
                    under = issubclass(getattr(errors, name), getattr(errors, other))
                    self.assertIs(under, name == other)

    def test_each_bears_its_name_and_is_raised_with_words(self):
        for name in OTHERS + ("FreshError",):
            with self.subTest(name):
                kind = getattr(errors, name)
                self.assertEqual(kind.__name__, name)
                with self.assertRaises(kind) as caught:
                    raise kind("some words")
                self.assertEqual(str(caught.exception), "some words")
