"""Point 2: whole numbers, texts, words."""

import string
import unittest

from things import NO_WORDS, ODD_THINGS

from eventloom.errors import LoomError, NoHandler, NoWord, Stranger, Twice
from eventloom.words import is_whole, is_word, need_word

SMALL = string.ascii_lowercase
WORDS = ["a", "z", "ab", "zz", "abcdefghijk", "abcdefghijkl", "nopqrstuvwxy", "zzzzzzzzzzzz"] + list(SMALL)


class TestWhole(unittest.TestCase):
    def test_whole_numbers_of_any_size(self):
        for thing in (0, 1, -1, 2, 40, -1000000001, 2 ** 64, -2 ** 64, 10 ** 6000, -10 ** 6000):
            self.assertIs(is_whole(thing), True)

    def test_other_things(self):
        for at, thing in enumerate(ODD_THINGS + ["0", "1", "-1", "", "a", "12", (), (1,), 0.0, 1.0]):
            self.assertIs(is_whole(thing), False, at)


class TestWord(unittest.TestCase):
    def test_words(self):
        for word in WORDS:
            self.assertIs(is_word(word), True, word)

    def test_lengths(self):
        for many in range(30):
            self.assertIs(is_word("q" * many), 1 <= many <= 12, many)

    def test_other_things(self):
        for at, thing in enumerate(NO_WORDS):
            self.assertIs(is_word(thing), False, at)

    def test_one_wrong_sign_anywhere(self):
        for number in list(range(128)) + [0xE4, 0xDF, 0x131, 0x3B1, 0x430, 0x2000, 0xFF41, 0x1D41A]:
            sign = chr(number)
            for text in (sign, sign + "abc", "ab" + sign + "c", "abc" + sign, "abcdefghijk" + sign):
                self.assertIs(is_word(text), sign in SMALL, text)

    def test_need_word_gives_the_word(self):
        for word in WORDS:
            self.assertEqual(need_word(word), word)

    def test_need_word_refuses_with_no_word_alone(self):
        for at, thing in enumerate(NO_WORDS):
            with self.assertRaises(LoomError, msg=at) as caught:
                need_word(thing)
            self.assertIs(caught.exception.__class__, NoWord, at)
            for other in (NoHandler, Twice, Stranger):
                self.assertNotIsInstance(caught.exception, other)


if __name__ == "__main__":
    unittest.main()
