"""words: how many words a lexicon has, or where a text that's none is at fault."""

import itertools
import unittest

from signsounds.sounds import words
from tests.lexicons import LETTERS, lexicon_text, text, three_letter_words, told_words

NO_LETTERS = [byte for byte in range(256) if byte != 10 and not 97 <= byte <= 122]


class WordsCase(unittest.TestCase):
    def counts(self, written, count):
        self.assertEqual(words(text(written)), [count], written)

    def faults(self, written, place):
        self.assertEqual(words(text(written)), [-6, place], written)


class OrdinaryLexicons(WordsCase):
    def test_one_word(self):
        for written in ("a/", "z/", "ba/", "sign/", LETTERS + "/"):
            self.counts(written, 1)

    def test_several_words(self):
        self.counts("a/aba/ba/", 3)
        self.counts("a/b/", 2)
        self.counts("ab/abc/abd/b/ba/zzz/", 6)
        self.counts("/".join(LETTERS) + "/", 26)

    def test_a_word_that_another_begins_with_stands_before_it(self):
        self.counts("a/aa/aaa/", 3)
        self.counts("ab/aba/", 2)
        self.counts("az/aza/b/", 3)

    def test_order_is_by_bytes_not_by_length(self):
        self.counts("abc/b/", 2)
        self.counts("aaaaaaaa/ab/", 2)


class FaultsOfForm(WordsCase):
    def test_empty_text(self):
        self.assertEqual(words([]), [-6, 0])

    def test_text_that_ends_without_its_byte_10(self):
        self.faults("a", 1)
        self.faults("abc", 3)
        self.faults("a/b", 3)
        self.faults("a/aba/ba", 8)

    def test_text_that_ends_while_its_word_is_not_yet_behind_the_one_before(self):
        self.faults("abc/a", 5)
        self.faults("abc/abc", 7)

    def test_empty_line(self):
        self.faults("/", 0)
        self.faults("//", 0)
        self.faults("/a/", 0)
        self.faults("a//", 2)
        self.faults("a//b/", 2)
        self.faults("a/b//", 4)

    def test_a_byte_that_is_no_letter(self):
        for byte in NO_LETTERS:
            self.assertEqual(words([byte]), [-6, 0])
            self.assertEqual(words([byte] + text("a/")), [-6, 0])
            self.assertEqual(words(text("a") + [byte] + text("b/")), [-6, 1])
            self.assertEqual(words(text("ab") + [byte] + text("/")), [-6, 2])
            self.assertEqual(words(text("a/") + [byte]), [-6, 2])
            self.assertEqual(words(text("a/") + [byte] + text("b/")), [-6, 2])
            self.assertEqual(words(text("a/bc") + [byte] + text("/")), [-6, 4])

    def test_the_first_of_several_faults_is_told(self):
        self.faults("b/A/a/", 2)
        self.faults("b/a/A/", 2)


class FaultsOfOrder(WordsCase):
    def test_words_out_of_order(self):
        self.faults("b/a/", 2)
        self.faults("abd/abc/", 6)
        self.faults("a/c/b/", 4)
        self.faults("ba/ab/", 3)

    def test_a_word_twice(self):
        self.faults("a/a/", 3)
        self.faults("abc/abc/", 7)
        self.faults("a/b/b/c/", 5)

    def test_a_word_that_another_begins_with_behind_it(self):
        self.faults("ab/a/", 4)
        self.faults("abc/ab/", 6)
        self.faults("a/abc/ab/", 8)

    def test_byte_10_before_the_word_stands_behind_the_one_before(self):
        self.faults("abc//", 4)
        self.faults("abc/a/", 5)
        self.faults("abc/ab/", 6)
        self.faults("abc/abc/", 7)
        self.counts("abc/abca/", 2)
        self.counts("abc/abd/", 2)
        self.counts("abc/ac/", 2)

    def test_only_the_word_just_before_counts(self):
        self.faults("a/c/b/", 4)
        self.faults("a/b/a/", 4)


class LongestWords(WordsCase):
    def test_32_letters(self):
        self.counts("a" * 32 + "/", 1)
        self.counts("z" * 32 + "/", 1)
        self.counts("a" * 32 + "/" + "b" * 32 + "/", 2)

    def test_a_33rd_letter(self):
        for letter in LETTERS:
            self.faults("a" * 32 + letter + "/", 32)
            self.faults("z" * 32 + letter, 32)
            self.faults("a/" + "b" * 32 + letter + "/", 34)

    def test_32_letters_without_byte_10(self):
        self.faults("a" * 32, 32)
        self.faults("a" * 31, 31)

    def test_behind_32_letters_the_same_letters_cannot_come_again(self):
        before = "b" * 32 + "/"
        self.faults(before + "b" * 31, 64)
        self.faults(before + "b" * 32, 64)
        self.faults(before + "b" * 31 + "a", 64)
        self.counts(before + "b" * 31 + "c/", 2)

    def test_behind_a_word_of_32_letters_whose_end_is_zs(self):
        for tail in range(1, 32):
            begin = "b" * (32 - tail)
            before = begin + "z" * tail + "/"
            upto = 33 + len(begin) - 1
            self.faults(before + begin + "z" * tail + "/", upto)
            self.faults(before + begin, upto)
            self.faults(before + begin[:-1] + "a", upto)
            self.faults(before + begin[:-1] + "c", upto + 1)
            self.counts(before + begin[:-1] + "c/", 2)

    def test_z_alone_before_a_shorter_word_of_zs(self):
        before = "a" + "z" * 30 + "/"
        self.counts(before + "a" + "z" * 30 + "a/", 2)
        self.faults(before + "a" + "z" * 30, 63)
        self.faults(before + "a" + "z" * 30 + "/", 63)

    def test_behind_the_last_word_of_all_nothing_comes(self):
        before = "z" * 32 + "/"
        for byte in range(256):
            self.assertEqual(words(text(before) + [byte]), [-6, 33])
            self.assertEqual(words(text("a/" + before) + [byte] + text("/")), [-6, 35])

    def test_behind_the_last_word_but_one_the_last_comes(self):
        self.counts("z" * 31 + "/" + "z" * 32 + "/", 2)
        self.counts("z" * 31 + "y/" + "z" * 32 + "/", 2)
        self.faults("z" * 31 + "/" + "z" * 31 + "/", 63)
        self.faults("z" * 31 + "y/" + "z" * 31 + "/", 64)
        self.faults("z" * 31 + "y/" + "z" * 31 + "y/", 64)


class ManyWords(WordsCase):
    def test_4096_words(self):
        self.assertEqual(words(lexicon_text(three_letter_words(4095))), [4095])
        self.assertEqual(words(lexicon_text(three_letter_words(4096))), [4096])

    def test_a_4097th_word(self):
        self.assertEqual(words(lexicon_text(three_letter_words(4097))), [-6, 16384])

    def test_any_byte_behind_4096_words(self):
        full = lexicon_text(three_letter_words(4096))
        for byte in range(256):
            self.assertEqual(words(full + [byte]), [-6, 16384], byte)

    def test_the_last_word_unended(self):
        full = lexicon_text(three_letter_words(4096))
        self.assertEqual(words(full[:-1]), [-6, 16383])


class ManyBytes(WordsCase):
    def setUp(self):
        self.full = lexicon_text([each + "a" * 12 for each in three_letter_words(4096)])

    def test_65536_bytes(self):
        self.assertEqual(len(self.full), 65536)
        self.assertEqual(words(self.full), [4096])

    def test_65536_wrong_bytes(self):
        self.assertEqual(words([0] * 65536), [-6, 0])
        self.assertEqual(words([97] * 65536), [-6, 32])
        self.assertEqual(words(self.full[:-1] + [97]), [-6, 65536])

    def test_the_lexicon_that_a_text_begins_may_have_more_bytes(self):
        # The 65,536 bytes end within a word, so that a right text goes on behind them.
        long = lexicon_text([each + "a" * 20 for each in three_letter_words(4096)])
        self.assertEqual(words(long[:65536]), [-6, 65536])

    def test_65537_bytes_come_before_every_other_refusal(self):
        longer = self.full[:-1] + [97, 10]
        self.assertEqual(len(longer), 65537)
        self.assertEqual(words(longer), [-2])
        self.assertEqual(words([0] * 65537), [-2])
        self.assertEqual(words([97] * 65537), [-2])
        self.assertEqual(words([10] * 70000), [-2])


class AllShortTexts(WordsCase):
    def test_texts_of_few_bytes(self):
        for size in range(7):
            for given in itertools.product((10, 97, 98, 122, 65), repeat=size):
                self.assertEqual(words(list(given)), told_words(list(given)), given)

    def test_few_bytes_behind_long_words(self):
        for long in ("z" * 32, "z" * 31, "z" * 30, "z" * 31 + "y", "z" * 30 + "yz", "z" * 30 + "y"):
            for size in range(28, 33):
                begin = text(long + "/" + long[:size])
                for tail in itertools.product((10, 97, 121, 122), repeat=4):
                    given = begin + list(tail)
                    self.assertEqual(words(given), told_words(given), given)


class NothingKept(WordsCase):
    def test_what_is_handed_in_is_as_it_was(self):
        for written in ("a/aba/ba/", "", "b/a/", "a//", "ab", "a" * 40):
            given = text(written)
            words(given)
            self.assertEqual(given, text(written))
        given = [97] * 65537
        words(given)
        self.assertEqual(given, [97] * 65537)

    def test_the_same_call_answers_the_same_again(self):
        given = text("a/aba/ba/")
        answer = words(given)
        answer.append(7)
        self.assertEqual(words(given), [3])
        self.faults("b/a/", 2)
        self.assertEqual(words(given), [3])
        self.faults("b/a/", 2)

    def test_a_text_changed_by_its_owner_is_read_anew(self):
        given = text("a/b/")
        self.assertEqual(words(given), [2])
        given[2] = 97
        self.assertEqual(words(given), [-6, 3])

    def test_a_list_of_whole_numbers_is_given_back(self):
        for given in (text("a/"), text("a"), [97] * 65537):
            answer = words(given)
            self.assertIs(type(answer), list)
            self.assertTrue(all(type(number) is int for number in answer))

    def test_the_argument_has_its_name(self):
        self.assertEqual(words(x=text("a/")), [1])


if __name__ == "__main__":
    unittest.main()
