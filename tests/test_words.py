import string
import unittest

from helper import STRANGE, nested
from tryweir.words import is_whole, is_word


class Words(unittest.TestCase):
    """[0.2]: words."""

    def test_words_of_1_to_8_letters(self):
        for size in range(1, 9):
            self.assertIs(is_word("abcdefgh"[:size]), True)
            self.assertIs(is_word("z" * size), True)
        for letter in string.ascii_lowercase:
            self.assertIs(is_word(letter), True)
            self.assertIs(is_word("ab" + letter), True)

    def test_texts_of_0_and_9_letters(self):
        self.assertIs(is_word(""), False)
        self.assertIs(is_word("abcdefghi"), False)
        self.assertIs(is_word("a" * 3000), False)

    def test_other_signs(self):
        for sign in "AZ09_-/ \n\t`{@[.;'\"\u00e9\u00df\u0430\uff41\u017f\u0131\x00":
            for text in (sign, sign + "a", "a" + sign, "ab" + sign + "cd"):
                self.assertIs(is_word(text), False, repr(text))

    def test_other_kinds(self):
        for thing in (None, True, False, 0, 1, 97, (), [], ("a",), ["a"], ("a", "b"), list("abc"), nested(30)):
            self.assertIs(is_word(thing), False, repr(thing))


class Wholes(unittest.TestCase):
    """[0.2]: whole numbers."""

    def test_whole_numbers(self):
        for number in (0, 1, -1, 2, 99, -99, 10 ** 60, -10 ** 60, 10 ** 5000, -10 ** 5000):
            self.assertIs(is_whole(number), True)

    def test_truths_are_none(self):
        self.assertIs(is_whole(True), False)
        self.assertIs(is_whole(False), False)

    def test_other_kinds(self):
        for thing in (None, "", "1", "a", (), [], (1,), [1], (1, 1), nested(30)):
            self.assertIs(is_whole(thing), False, repr(thing))

    def test_anything_has_an_answer(self):
        for thing in STRANGE:
            self.assertIn(is_whole(thing), (True, False))
            self.assertIn(is_word(thing), (True, False))


if __name__ == "__main__":
    unittest.main()
