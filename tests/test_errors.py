"""Point 3 and the interface: the classes of the refusals."""

import unittest

from keyswap import errors
from keyswap.errors import NoHouse, SwapError, Twice


class ErrorClasses(unittest.TestCase):
    def test_names(self):
        for name, kind in (("SwapError", SwapError), ("NoHouse", NoHouse), ("Twice", Twice)):
            self.assertEqual(kind.__name__, name)
            self.assertIs(getattr(errors, name), kind)

    def test_bases(self):
        self.assertEqual(SwapError.__bases__, (ValueError,))
        self.assertEqual(NoHouse.__bases__, (SwapError,))
        self.assertEqual(Twice.__bases__, (SwapError,))

    def test_each_is_taken_as_swap_error_and_as_value_error(self):
        for kind in (SwapError, NoHouse, Twice):
            for taken_as in (kind, SwapError, ValueError):
                with self.subTest(kind=kind, taken_as=taken_as):
                    try:
                        raise kind("some words")
                    except taken_as as error:
                        self.assertIs(error.__class__, kind)

    def test_the_refusals_are_not_taken_for_one_another(self):
        self.assertFalse(issubclass(NoHouse, Twice))
        self.assertFalse(issubclass(Twice, NoHouse))
        self.assertFalse(issubclass(SwapError, (NoHouse, Twice)))

    def test_made_with_words_or_without(self):
        for kind in (SwapError, NoHouse, Twice):
            self.assertEqual(str(kind("house 9")), "house 9")
            self.assertEqual(str(kind()), "")


if __name__ == "__main__":
    unittest.main()
