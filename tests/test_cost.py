"""cost: the least cost of a reading of a stretch."""

import random
import unittest

from signsounds.sounds import cost
from tests import plain
from tests.cases import RUN_LEXICON, RUN_LIST, RUN_TEXT, bytes_of, some_case
from tests.lexicons import LETTERS, lexicon_text, text, three_letter_words


class CostCase(unittest.TestCase):
    def costs(self, i, j, b, t, x, answer):
        self.assertEqual(cost(*bytes_of(i, j, b, t, x)), [answer], (i, j, b, t, x))


class ByHand(CostCase):
    def test_the_run_that_the_document_tells(self):
        self.costs(0, 2, RUN_LIST, RUN_TEXT, RUN_LEXICON, 11)
        self.costs(0, 0, RUN_LIST, "A2/", RUN_LEXICON, -5)

    def test_one_place(self):
        self.costs(0, 0, RUN_LIST, RUN_TEXT, "a/", 3)
        self.costs(0, 0, RUN_LIST, RUN_TEXT, "ba/", 4)
        self.costs(0, 0, RUN_LIST, RUN_TEXT, RUN_LEXICON, 3)
        self.costs(0, 0, RUN_LIST, RUN_TEXT, "aba/", -5)
        self.costs(1, 1, RUN_LIST, RUN_TEXT, RUN_LEXICON, -5)
        self.costs(2, 2, RUN_LIST, RUN_TEXT, RUN_LEXICON, 3)

    def test_each_sounds_number(self):
        sounds = "ac ab h g f e d c".split()
        for number, sound in enumerate(sounds):
            self.costs(0, 0, "sign A1 " + " ".join(sounds) + "/#/", "A1/", sound + "/", number + 3)

    def test_a_silent_sign_costs_7(self):
        b = "sign A1 a b/#/sign A2 c/#/"
        self.costs(0, 1, b, "A1 A2/", "a/", 0 + 7 + 3)
        self.costs(0, 1, b, "A1 A2/", "c/", 7 + 0 + 3)
        self.costs(0, 1, b, "A1 A2/", "a/ac/c/", 0 + 0 + 3)
        self.costs(0, 1, b, "A1 A2/", "b/bc/", 1 + 0 + 3)
        self.costs(0, 3, b, "A1 A2 A2 A1/", "ab/", 0 + 7 + 7 + 1 + 3)

    def test_each_word_costs_3(self):
        b = "sign A1 a/#/"
        self.costs(0, 0, b, "A1 A1 A1 A1/", "a/", 3)
        self.costs(0, 3, b, "A1 A1 A1 A1/", "a/", 12)
        self.costs(0, 3, b, "A1 A1 A1 A1/", "a/aa/", 6)
        self.costs(0, 3, b, "A1 A1 A1 A1/", "a/aa/aaa/", 6)
        self.costs(0, 3, b, "A1 A1 A1 A1/", "a/aa/aaa/aaaa/", 3)
        self.costs(0, 2, b, "A1 A1 A1 A1/", "aa/", 0 + 0 + 7 + 3)

    def test_signs_that_stand_before_in_the_set(self):
        b = "sign A1/#/sign A2 a/#/sign A3 b a/#/sign B1 a/##/"
        self.costs(0, 0, b, "A1?/", "a/", 2 + 3)
        self.costs(0, 0, b, "A1?/", "b/", 4 + 3)
        self.costs(0, 0, b, "A3?/", "b/", 4 + 3)
        self.costs(0, 0, b, "A3/", "b/", 3)
        self.costs(0, 0, b, "A3/", "a/", 1 + 3)
        self.costs(0, 0, b, "B1/", "a/", 3)
        self.costs(0, 0, b, "_1%1234/", "b/", 4 + 3)
        self.costs(0, 0, b, "_2%1234/", "b/", 4 + 3)
        self.costs(0, 1, b, "A1? A3?/", "ab/", 2 + 4 + 3)
        self.costs(0, 1, b, "A1? B1/", "a/", 2 + 3 + 0 + 3)

    def test_a_dearer_sound_for_a_cheaper_reading(self):
        b = "sign A1 a ab/#/sign A2 b c/#/"
        self.costs(0, 1, b, "A1 A2/", "a/ab/b/", 3)
        self.costs(0, 1, b, "A1 A2/", "abc/", 1 + 1 + 3)
        self.costs(0, 1, b, "A1 A2/", "a/c/", 0 + 3 + 1 + 3)
        self.costs(0, 1, b, "A1 A2/", "abb/b/", 1 + 0 + 3)

    def test_only_the_stretch_is_read(self):
        b = "sign A1 a/#/sign A2 b/#/sign A3/#/"
        t = "A3 A1 A2 A3 A1/A2 A3/"
        self.costs(1, 2, b, t, "ab/", 3)
        self.costs(4, 5, b, t, "ab/", 3)
        self.costs(1, 5, b, t, "ab/", 3 + 7 + 3)
        self.costs(0, 6, b, t, "ab/", 7 + 3 + 7 + 3 + 7)
        self.costs(2, 4, b, t, "ab/ba/", 7 + 3)
        self.costs(2, 4, b, t, "a/b/", 3 + 7 + 3)
        self.costs(3, 3, b, t, "a/b/", -5)

    def test_a_word_over_lines_and_blocks(self):
        b = "sign A1 a/#/sign A2 b/#/sign A3 c/#/"
        for t in ("A1 A2 A3/", "A1/A2/A3/", "A1:A2 A3/", "A1[nA2;sA3]/", "<A1 A2>/A3/", "A1 _1 A2 _3%12 A3/"):
            self.costs(0, 2, b, t, "abc/", 3)

    def test_marks_of_certain_signs_change_no_cost(self):
        self.costs(0, 2, RUN_LIST, "A1~ A2~ A1~/", RUN_LEXICON, 11)


class Breaks(CostCase):
    B = "sign A1 a/#/sign A2 b/#/"

    def test_a_break_before_the_stretch(self):
        self.costs(0, 1, self.B, "... A1 A2/", "ab/", 3)
        self.costs(1, 2, self.B, "A1 ... A1 A2/", "ab/", 3)
        self.costs(1, 2, self.B, "... A1 ... ... A1 A2/", "ab/", 3)

    def test_a_break_behind_the_stretch(self):
        self.costs(0, 1, self.B, "A1 A2 .../", "ab/", 3)
        self.costs(0, 1, self.B, "A1 A2 ... A1/", "ab/", 3)
        self.costs(0, 1, self.B, "A1 A2/.../A1 .../", "ab/", 3)

    def test_a_break_within_the_stretch(self):
        for t in ("A1 ... A2/", "A1/.../A2/", "A1 ... ... A2/", "A1 _1 ... _1 A2/", "... A1 ... A2 .../"):
            self.costs(0, 1, self.B, t, "a/ab/b/", -8)
        self.costs(0, 3, self.B, "A1 A2 A1 ... A2/", "a/ab/b/", -8)
        self.costs(0, 3, self.B, "A1 ... A2 A1 A2/", "a/ab/b/", -8)
        self.costs(1, 3, self.B, "A1 ... A2 A1 A2/", "a/ab/b/", 6)
        self.costs(0, 2, self.B, "A1 A2 A1 ... A2/", "a/ab/b/", 6)

    def test_each_place_by_itself_has_no_break_in_it(self):
        for place in (0, 1, 2):
            self.costs(place, place, self.B, "... A1 ... A2 ... A1 .../", "a/b/", 3)

    def test_breaks_at_every_place(self):
        for before in range(6):
            pieces = ["A1"] * 5
            pieces.insert(before, "...")
            for i in range(5):
                for j in range(i, 5):
                    answer = -8 if i < before <= j else 3 * (j - i + 1)
                    self.costs(i, j, self.B, " ".join(pieces) + "/", "a/", answer)


class WaysToGetItWrong(CostCase):
    def test_a_sound_that_goes_on_into_the_next_word(self):
        self.costs(0, 1, "sign A1 ab/#/sign A2 c/#/", "A1 A2/", "a/bc/", -5)
        self.costs(0, 2, "sign A1 ab/#/", "A1 A1 A1/", "a/ba/bab/", -5)
        self.costs(0, 0, "sign A1 ab/#/", "A1/", "a/b/", -5)

    def test_silent_signs_alone_as_a_word(self):
        self.costs(0, 0, "sign A1/#/", "A1/", "a/", -5)
        self.costs(0, 3, "sign A1/#/", "A1 A1 A1 A1/", "a/", -5)
        self.costs(0, 0, "sign A1 b/#/", "A1/", "a/", -5)

    def test_a_silent_sign_behind_the_last_word(self):
        # The word has to go on to the silent sign: it ends behind it, not before it and once more.
        self.costs(0, 1, "sign A1 a/#/sign A2/#/", "A1 A2/", "a/", 0 + 7 + 3)
        self.costs(0, 3, "sign A1 a/#/sign A2/#/", "A1 A2 A1 A2/", "a/", 0 + 7 + 3 + 0 + 7 + 3)

    def test_the_longest_word_first(self):
        b = "sign A1 a/#/sign A2 b/#/sign A3 c/#/"
        self.costs(0, 3, b, "A1 A2 A3 A1/", "a/abc/b/ca/", 3 + 3)
        self.costs(0, 3, b, "A1 A2 A3 A1/", "a/ab/abc/ca/", 3 + 3)
        self.costs(0, 2, b, "A1 A2 A3/", "a/ab/bc/", 3 + 3)
        self.costs(0, 3, b, "A1 A2 A3 A1/", "abc/bca/", 7 + 3)

    def test_costs_by_signs_numbers(self):
        self.costs(0, 0, "sign A1/#/sign A2/#/sign B1 a/#/sign B2 b/#/", "B1/", "a/", 3)
        self.costs(0, 0, "sign A1/#/sign A2/#/sign B1 a/#/sign B2 b/#/", "B1?/", "b/", 2 + 3)
        self.costs(0, 0, "sign A1/##/sign A2/#/sign B1 b/##/", "B1%1234/", "b/", 2 + 3)

    def test_an_end_after_the_last_place_forgotten(self):
        self.costs(0, 1, "sign A1 a/#/sign A2 b/#/", "A1 A2/", "a/abc/", 0 + 7 + 3)
        self.costs(0, 1, "sign A1 a/#/sign A2 b c/#/", "A1 A2/", "abc/", -5)
        self.costs(0, 0, "sign A1 a/#/", "A1/", "ab/", -5)

    def test_a_break_read_over(self):
        self.costs(0, 1, "sign A1 a/#/", "A1 ... A1/", "a/aa/", -8)

    def test_words_out_of_order_taken(self):
        self.costs(0, 0, "sign A1 a/#/", "A1/", "b/a/", -10)
        self.costs(0, 0, "sign A1 a/#/", "A1/", "a/a/", -10)

    def test_a_reading_of_another_stretch_taken(self):
        b = "sign A1 a/#/sign A2 b/#/"
        self.costs(0, 0, b, "A1 A2/", "ab/", -5)
        self.costs(1, 1, b, "A1 A2/", "ab/", -5)
        self.costs(1, 1, b, "A1 A2/", "a/ab/", -5)
        self.costs(0, 1, b, "A1 A2/", "a/ab/", 3)

    def test_a_signs_fourth_sound_as_its_third(self):
        b = "sign A1 a b c d e f g h/#/"
        for number, letter in enumerate("abcdefgh"):
            self.costs(0, 0, b, "A1/", letter + "/", number + 3)


class AgainstThePlainWay(CostCase):
    def test_small_cases(self):
        chance = random.Random(21)
        answers = {}
        for number in range(1500):
            case = some_case(chance)
            told = plain.told_cost(*case)
            self.assertEqual(cost(*bytes_of(*case)), told, case)
            kind = min(told[0], 0)
            answers[kind] = answers.get(kind, 0) + 1
        for kind in (0, -4, -8, -5):
            self.assertGreater(answers[kind], 50, answers)

    def test_more_words_no_greater_cost(self):
        chance = random.Random(22)
        for number in range(800):
            i, j, b, t, x = some_case(chance)
            words = x.split("\n")[:-1]
            fewer = sorted(chance.sample(words, chance.randint(1, len(words))))
            most = cost(*bytes_of(i, j, b, t, "".join(word + "\n" for word in fewer)))
            least = cost(*bytes_of(i, j, b, t, x))
            if most[0] >= 0:
                self.assertTrue(0 <= least[0] <= most[0], (i, j, b, t, x, fewer))


class ManyPlaces(CostCase):
    def test_as_many_places_as_a_text_has_room_for(self):
        t = ("A1 " * 63 + "A1/") * 341
        self.assertLessEqual(len(t), 65536)
        self.costs(0, 341 * 64 - 1, "sign A1 a/#/", t, "a/aa/", 341 * 32 * 3)
        self.costs(341 * 64 - 1, 341 * 64 - 1, "sign A1 a/#/", t, "a/aa/", 3)
        self.costs(0, 341 * 64, "sign A1 a/#/", t, "a/aa/", -4)
        self.costs(0, 341 * 64 - 1, "sign A1/#/", t, "a/aa/", -5)

    def test_a_word_over_all_places(self):
        t = "A1/" + ("A2 " * 63 + "A2/") * 300 + "A1/"
        self.costs(0, 300 * 64 + 1, "sign A1 a b/#/sign A2/#/", t, "ab/", 0 + 7 * 300 * 64 + 1 + 3)

    def test_many_signs_sounds_and_words(self):
        sounds = [first + second for first in LETTERS for second in LETTERS] + list(LETTERS)
        b = "".join(
            f"sign A{number + 1} " + " ".join(sounds[(8 * number + k) % len(sounds)] for k in range(8)) + "/#/"
            for number in range(512)
        )
        x = lexicon_text(three_letter_words(4096))
        t = text(" ".join(["A1?"] * 40) + "/")
        self.assertLessEqual(len(b), 100000)
        # aa is sound 0 of the sign of number 0; a, the 676th of the sounds, is sound 4 of the sign of number 84.
        self.assertEqual(cost(0, 1, text(b), t, text("aaa/")), [0 + 2 * 84 + 4 + 3])
        self.assertGreater(cost(0, 39, text(b), t, x)[0], 0)
        self.assertEqual(cost(0, 39, text(b), text(" ".join(["_32%1234"] * 40) + "/"), x), cost(0, 39, text(b), t, x))

    def test_words_of_32_letters(self):
        b = "sign A1 aaaaaaaa a/#/"
        self.costs(0, 3, b, "A1 A1 A1 A1/", "a" * 32 + "/", 3)
        self.costs(0, 2, b, "A1 A1 A1/", "a" * 32 + "/", -5)
        self.costs(0, 31, b, "A1 " * 31 + "A1/", "a" * 32 + "/", 8 * 3)


class NothingKept(CostCase):
    CASES = (
        (0, 2, RUN_LIST, RUN_TEXT, RUN_LEXICON),
        (0, 0, RUN_LIST, "A2/", RUN_LEXICON),
        (0, 1, RUN_LIST, "A1~%12? ... _3%1234/", RUN_LEXICON),
        (0, 0, RUN_LIST, "A1~%12?[n_3%1234]/", RUN_LEXICON),
        (0, 5, RUN_LIST, RUN_TEXT, RUN_LEXICON),
        (0, 0, RUN_LIST, "A1", RUN_LEXICON),
        (0, 0, "sign", RUN_TEXT, RUN_LEXICON),
        (0, 0, RUN_LIST, RUN_TEXT, "a"),
    )

    def test_what_is_handed_in_is_as_it_was(self):
        for case in self.CASES:
            given = bytes_of(*case)
            cost(*given)
            self.assertEqual(given, bytes_of(*case))

    def test_the_same_call_answers_the_same_again(self):
        answers = [cost(*bytes_of(*case)) for case in self.CASES]
        self.assertEqual([cost(*bytes_of(*case)) for case in reversed(self.CASES)], answers[::-1])
        cost(*bytes_of(*self.CASES[0])).append(7)
        self.assertEqual(cost(*bytes_of(*self.CASES[0])), [11])

    def test_texts_changed_by_their_owner_are_read_anew(self):
        i, j, b, t, x = bytes_of(0, 2, RUN_LIST, RUN_TEXT, RUN_LEXICON)
        self.assertEqual(cost(i, j, b, t, x), [11])
        t[4:5] = text("1")
        self.assertEqual(cost(i, j, b, t, x), [7])
        x[2:] = []
        self.assertEqual(cost(i, j, b, t, x), [9])

    def test_a_list_of_whole_numbers_is_given_back(self):
        for case in self.CASES:
            answer = cost(*bytes_of(*case))
            self.assertIs(type(answer), list)
            self.assertEqual([type(number) for number in answer], [int])

    def test_the_arguments_have_their_names(self):
        i, j, b, t, x = bytes_of(0, 2, RUN_LIST, RUN_TEXT, RUN_LEXICON)
        self.assertEqual(cost(x=x, t=t, b=b, j=j, i=i), [11])


if __name__ == "__main__":
    unittest.main()
