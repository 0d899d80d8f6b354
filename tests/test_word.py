"""word: the letters of one word of a lexicon."""

import unittest

from signsounds.sounds import word, words
from tests.lexicons import LETTERS, WRONG_TEXTS, lexicon_text, text, three_letter_words

LEXICONS = (
    ["a"],
    ["sign"],
    ["a", "aba", "ba"],
    ["a", "aa", "aaa", "ab", "b"],
    ["ab", "abc", "abd", "b", "ba", "zzz"],
    list(LETTERS),
    ["a" * 32],
    ["a" * 31, "a" * 32, "b", "z" * 31 + "y", "z" * 32],
)


class Answered(unittest.TestCase):
    def test_each_word_by_its_number(self):
        for found in LEXICONS:
            for k, each in enumerate(found):
                self.assertEqual(word(k, lexicon_text(found)), [len(each)] + text(each))

    def test_written_out(self):
        self.assertEqual(word(0, text("a/aba/ba/")), [1, 97])
        self.assertEqual(word(1, text("a/aba/ba/")), [3, 97, 98, 97])
        self.assertEqual(word(2, text("a/aba/ba/")), [2, 98, 97])

    def test_the_words_with_their_ends_are_the_text(self):
        for found in LEXICONS:
            given = lexicon_text(found)
            again = []
            for k in range(words(given)[0]):
                again = again + word(k, given)[1:] + [10]
            self.assertEqual(again, given)

    def test_4096_words(self):
        found = three_letter_words(4096)
        given = lexicon_text(found)
        for k in (0, 1, 25, 26, 2047, 4094, 4095):
            self.assertEqual(word(k, given), [3] + text(found[k]))
        self.assertEqual(word(4096, given), [-4])

    def test_65536_bytes(self):
        found = [each + "a" * 12 for each in three_letter_words(4096)]
        given = lexicon_text(found)
        self.assertEqual(len(given), 65536)
        self.assertEqual(word(4095, given), [15] + text(found[4095]))


class Refused(unittest.TestCase):
    def test_no_such_word(self):
        for found in LEXICONS:
            given = lexicon_text(found)
            for k in (len(found), len(found) + 1, 4096, 65536, 2147483648, 4294967295):
                self.assertEqual(word(k, given), [-4], k)

    def test_no_lexicons_text(self):
        for written in WRONG_TEXTS:
            self.assertEqual(word(0, text(written)), [-10], written)

    def test_no_lexicons_text_comes_before_no_such_word(self):
        for written in WRONG_TEXTS:
            for k in (1, 9, 4294967295):
                self.assertEqual(word(k, text(written)), [-10], written)

    def test_a_fault_behind_the_word_that_is_asked(self):
        self.assertEqual(word(0, text("a/b/b/")), [-10])
        self.assertEqual(word(0, lexicon_text(three_letter_words(4097))), [-10])

    def test_65537_bytes_come_before_every_other_refusal(self):
        right_but_long = lexicon_text([each + "a" * 12 for each in three_letter_words(4096)])[:-1] + [97, 10]
        for given in (right_but_long, [0] * 65537, [97] * 65537, [10] * 70000):
            for k in (0, 4096, 4294967295):
                self.assertEqual(word(k, given), [-2])

    def test_65536_wrong_bytes(self):
        self.assertEqual(word(0, [97] * 65536), [-10])
        self.assertEqual(word(4294967295, [0] * 65536), [-10])


class NothingKept(unittest.TestCase):
    def test_what_is_handed_in_is_as_it_was(self):
        for written in ("a/aba/ba/",) + WRONG_TEXTS:
            for k in (0, 2, 3):
                given = text(written)
                word(k, given)
                self.assertEqual(given, text(written))

    def test_the_same_call_answers_the_same_again(self):
        given = text("a/aba/ba/")
        answer = word(1, given)
        answer[1] = 120
        answer.append(7)
        self.assertEqual(word(2, given), [2, 98, 97])
        self.assertEqual(word(3, given), [-4])
        self.assertEqual(word(1, given), [3, 97, 98, 97])
        self.assertEqual(given, text("a/aba/ba/"))

    def test_a_list_of_whole_numbers_is_given_back(self):
        for k, given in ((0, text("a/")), (1, text("a/")), (0, text("a")), (0, [97] * 65537)):
            answer = word(k, given)
            self.assertIs(type(answer), list)
            self.assertTrue(all(type(number) is int for number in answer))

    def test_the_arguments_have_their_names(self):
        self.assertEqual(word(k=0, x=text("a/")), [1, 97])


if __name__ == "__main__":
    unittest.main()
