"""find: the number of a word of a lexicon."""

import unittest

from signsounds.sounds import find, word
from tests.lexicons import LETTERS, WRONG_TEXTS, lexicon_text, text, three_letter_words

LEXICON = ["ab", "aba", "abc", "b", "ba", "c" * 31, "c" * 32, "zzz"]


class Answered(unittest.TestCase):
    def test_each_word(self):
        for found in (["a"], ["a", "aba", "ba"], LEXICON, list(LETTERS)):
            for k, each in enumerate(found):
                self.assertEqual(find(lexicon_text(found), text(each)), [k], each)

    def test_first_middle_and_last_of_many(self):
        found = three_letter_words(4096)
        for k in (0, 1, 2047, 2048, 4094, 4095):
            self.assertEqual(find(lexicon_text(found), text(found[k])), [k])

    def test_what_word_answers_is_found(self):
        given = lexicon_text(LEXICON)
        for k in range(len(LEXICON)):
            self.assertEqual(find(given, word(k, given)[1:]), [k])

    def test_65536_bytes(self):
        found = [each + "a" * 12 for each in three_letter_words(4096)]
        self.assertEqual(len(lexicon_text(found)), 65536)
        self.assertEqual(find(lexicon_text(found), text(found[4095])), [4095])


class NoSuchWord(unittest.TestCase):
    def is_none(self, s):
        self.assertEqual(find(lexicon_text(LEXICON), s), [-5], s)

    def test_empty(self):
        self.is_none([])

    def test_longer_than_a_word_can_be(self):
        self.is_none(text("c" * 33))
        self.is_none(text("c" * 2000))

    def test_a_beginning_of_a_word(self):
        for written in ("a", "z", "zz", "c", "c" * 30):
            self.is_none(text(written))

    def test_a_word_and_more(self):
        for written in ("aa", "abab", "baa", "zzza", "abaa"):
            self.is_none(text(written))

    def test_an_end_or_a_middle_of_a_word(self):
        for written in ("bc", "bb", "z"):
            self.is_none(text(written))

    def test_before_between_and_behind_all_words(self):
        for written in ("aa", "ac", "bz", "zzzz"):
            self.is_none(text(written))

    def test_bytes_that_are_no_letters(self):
        for byte in list(range(97)) + list(range(123, 256)):
            self.is_none([byte])
            self.is_none(text("ab") + [byte])
            self.is_none([byte] + text("ab"))

    def test_line_ends_within(self):
        for written in ("/", "ab/", "ab/aba", "ab/aba/", "/ab", "b/ba"):
            self.is_none(text(written))
        self.is_none(lexicon_text(LEXICON))

    def test_capitals(self):
        self.is_none(text("AB"))
        self.is_none(text("Ab"))


class Refused(unittest.TestCase):
    def test_no_lexicons_text(self):
        for written in WRONG_TEXTS:
            for s in ("", "a", "b", "A", "a" * 33):
                self.assertEqual(find(text(written), text(s)), [-10], written)

    def test_a_fault_behind_the_word(self):
        self.assertEqual(find(text("a/b/b/"), text("a")), [-10])
        self.assertEqual(find(lexicon_text(three_letter_words(4097)), text("aaa")), [-10])

    def test_65537_bytes_come_before_every_other_refusal(self):
        right_but_long = lexicon_text([each + "a" * 12 for each in three_letter_words(4096)])[:-1] + [97, 10]
        for given in (right_but_long, [0] * 65537, [97] * 65537, [10] * 70000):
            for s in ("", "aaa" + "a" * 12, "zz", "a" * 2000):
                self.assertEqual(find(given, text(s)), [-2])

    def test_65536_wrong_bytes(self):
        self.assertEqual(find([97] * 65536, text("a")), [-10])

    def test_a_long_s_alone_is_not_too_long(self):
        self.assertEqual(find(text("a/"), [97] * 2000), [-5])


class NothingKept(unittest.TestCase):
    def test_what_is_handed_in_is_as_it_was(self):
        for written in ("a/aba/ba/",) + WRONG_TEXTS:
            for s in ("", "a", "ba", "bb"):
                given, wanted = text(written), text(s)
                find(given, wanted)
                self.assertEqual((given, wanted), (text(written), text(s)))

    def test_the_same_call_answers_the_same_again(self):
        given = text("a/aba/ba/")
        find(given, text("ba")).append(7)
        self.assertEqual(find(given, text("bb")), [-5])
        self.assertEqual(find(given, text("ba")), [2])
        given[0:2] = []
        self.assertEqual(find(given, text("ba")), [1])

    def test_a_list_of_whole_numbers_is_given_back(self):
        for x, s in (("a/", "a"), ("a/", "b"), ("a", "a")):
            answer = find(text(x), text(s))
            self.assertIs(type(answer), list)
            self.assertTrue(all(type(number) is int for number in answer))

    def test_the_arguments_have_their_names(self):
        self.assertEqual(find(x=text("a/"), s=text("a")), [0])


if __name__ == "__main__":
    unittest.main()
