import unittest

from tryweir import errors

TEXTS = ("NoRatio", "NoHouse", "NoAsk", "NoPurse", "TooMany", "NoText", "NoRow", "NoNet", "NoPast")
NUMBERS = ("NoDeed", "NoEvent")


class Errors(unittest.TestCase):
    """[0.3] and the interface: the refusals."""

    def test_weir_error_is_straight_beneath_value_error(self):
        self.assertEqual(errors.WeirError.__bases__, (ValueError,))

    def test_each_is_straight_beneath_weir_error(self):
        for name in TEXTS + NUMBERS:
            self.assertEqual(getattr(errors, name).__bases__, (errors.WeirError,), name)

    def test_none_is_beneath_another(self):
        classes = [getattr(errors, name) for name in TEXTS + NUMBERS]
        self.assertEqual(len(set(classes)), 11)
        for one in classes:
            self.assertEqual([other for other in classes if issubclass(one, other)], [one])

    def test_made_with_a_text(self):
        for name in TEXTS:
            kind = getattr(errors, name)
            with self.assertRaises(kind) as caught:
                raise kind("some words")
            self.assertIn("some words", str(caught.exception))

    def test_bear_their_number(self):
        for name in NUMBERS:
            kind = getattr(errors, name)
            for at in (0, 1, 7, 1999, 10 ** 30):
                with self.assertRaises(kind) as caught:
                    raise kind(at)
                self.assertEqual(caught.exception.at, at)

    def test_each_object_has_its_own_number(self):
        one = errors.NoDeed(3)
        other = errors.NoDeed(4)
        self.assertEqual((one.at, other.at), (3, 4))
        self.assertFalse(hasattr(errors.NoDeed, "at"))


if __name__ == "__main__":
    unittest.main()
