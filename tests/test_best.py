"""best and said: the reading that's told, sign by sign and as its words."""

import random
import unittest

from signsounds.sounds import best, cost, said
from tests import plain
from tests.cases import RUN_LEXICON, RUN_LIST, RUN_TEXT, bytes_of, some_case
from tests.lexicons import text

ABC = "sign A1 a/#/sign A2 b/#/sign A3 c/#/"
# Of one class, so that an uncertain sign may be each: what's said dearly by the first is said cheaply by another.
TIED = "sign A1 d e a/#/sign A2 a b/#/sign A3 b/#/"


class ToldCase(unittest.TestCase):
    def tells(self, i, j, b, t, x, row, words):
        """best tells this row, written with blanks and slashes between places, said these words."""
        numbers = [int(number) for number in row.replace("/", " ").split()]
        self.assertEqual(best(*bytes_of(i, j, b, t, x)), [len(numbers)] + numbers, (i, j, b, t, x))
        self.assertEqual(said(*bytes_of(i, j, b, t, x)), [len(words)] + text(words), (i, j, b, t, x))

    def has_none(self, i, j, b, t, x, code=-5):
        self.assertEqual(best(*bytes_of(i, j, b, t, x)), [code], (i, j, b, t, x))
        self.assertEqual(said(*bytes_of(i, j, b, t, x)), [code], (i, j, b, t, x))


class ByHand(ToldCase):
    def test_the_run_that_the_document_tells(self):
        self.tells(0, 2, RUN_LIST, RUN_TEXT, RUN_LEXICON, "0 0 0/1 8 0/0 1 2", "aba")
        self.assertEqual(best(*bytes_of(0, 2, RUN_LIST, RUN_TEXT, RUN_LEXICON)), [9, 0, 0, 0, 1, 8, 0, 0, 1, 2])
        self.has_none(0, 0, RUN_LIST, "A2/", RUN_LEXICON)

    def test_one_place(self):
        self.tells(0, 0, RUN_LIST, RUN_TEXT, RUN_LEXICON, "0 0 1", "a")
        self.tells(2, 2, RUN_LIST, RUN_TEXT, "ba/", "0 1 1", "ba")
        self.tells(0, 0, RUN_LIST, RUN_TEXT, "b/ba/", "0 1 2", "ba")
        self.tells(0, 0, RUN_LIST, "A1?/", "ba/", "0 1 1", "ba")

    def test_signs_are_told_by_their_numbers_in_the_list(self):
        b = "sign A1/#/sign B1 a/##/sign C1 b/##/sign C2 c/#/"
        self.tells(0, 0, b, "C2/", "c/", "3 0 1", "c")
        self.tells(0, 0, b, "C1?/", "c/", "3 0 1", "c")
        self.tells(0, 0, b, "B1%1234/", "b/", "2 0 1", "b")
        self.tells(0, 1, b, "_1%1234 B1/", "ca/", "3 0 0/1 0 1", "ca")

    def test_silent_at_a_words_beginning(self):
        self.tells(0, 1, ABC, "A1 A2/", "b/", "0 8 0/1 0 1", "b")
        self.tells(0, 3, ABC, "A1 A2 A1 A3/", "ac/b/", "0 8 0/1 0 2/0 0 0/2 0 1", "b ac")

    def test_silent_within_a_word(self):
        self.tells(0, 2, ABC, "A1 A2 A3/", "ac/", "0 0 0/1 8 0/2 0 1", "ac")
        self.tells(0, 3, ABC, "A1 A2 A2 A3/", "ac/", "0 0 0/1 8 0/1 8 0/2 0 1", "ac")

    def test_silent_at_a_words_end(self):
        self.tells(0, 1, ABC, "A1 A2/", "a/", "0 0 0/1 8 1", "a")
        self.tells(0, 2, ABC, "A1 A2 A3/", "a/", "0 0 0/1 8 0/2 8 1", "a")

    def test_silent_between_two_words_belongs_to_the_first(self):
        # At the first word's end or at the second one's beginning it costs the same; no end stands before an end.
        self.tells(0, 2, ABC, "A1 A2 A3/", "a/c/", "0 0 0/1 8 1/2 0 2", "a c")

    def test_several_words(self):
        self.tells(0, 2, ABC, "A1 A2 A3/", "a/b/c/", "0 0 1/1 0 2/2 0 3", "a b c")
        self.tells(0, 4, ABC, "A1 A2 A3 A1 A2/", "ab/b/ca/", "0 0 0/1 0 1/2 0 0/0 0 3/1 0 2", "ab ca b")
        self.tells(0, 3, ABC, "A1 A1 A1 A1/", "a/aa/", "0 0 0/0 0 2/0 0 0/0 0 2", "aa aa")
        self.tells(0, 2, ABC, "A1 A1 A1/", "a/aa/", "0 0 0/0 0 2/0 0 1", "aa a")

    def test_only_the_stretch(self):
        t = "A3 A1 A2 ... A1 A3/"
        self.tells(1, 2, ABC, t, "ab/ac/c/", "0 0 0/1 0 1", "ab")
        self.tells(3, 4, ABC, t, "ab/ac/c/", "0 0 0/2 0 2", "ac")
        self.tells(0, 2, ABC, t, "ab/ac/c/", "2 0 3/0 0 0/1 0 1", "c ab")
        self.has_none(2, 3, ABC, t, "ab/ac/c/", -8)
        self.has_none(0, 4, ABC, t, "ab/ac/c/", -8)
        self.has_none(2, 2, ABC, t, "ab/ac/c/")
        self.has_none(4, 5, ABC, t, "ab/ac/c/", -4)


class Ties(ToldCase):
    def test_first_in_the_sign(self):
        # a: the first sign's third sound for 2, or the second sign's first sound for 2.
        self.tells(0, 0, TIED, "A1?/", "a/", "0 2 1", "a")
        # b: the second sign's second sound for 3, or the third sign's first sound for 4.
        self.tells(0, 0, TIED, "A1?/", "b/", "1 1 1", "b")
        b = "sign A1/#/sign A2 c d b/#/sign A3 b/#/"
        self.tells(0, 0, b, "A1?/", "b/", "1 2 1", "b")
        self.tells(0, 0, b, "A1?/", "b/bb/", "1 2 1", "b")

    def test_first_in_the_sign_though_it_is_dearer_then(self):
        # The first place says a for 2 and the second d for 0; or the first b for 0 and the second e for 2.
        b = "sign A1 x y a/#/sign A2 b/#/sign B1 d z e/##/"
        self.tells(0, 1, b, "A1? B1/", "ad/be/", "0 2 0/2 0 1", "ad")
        b = "sign A1 b/#/sign A2 a/#/sign B1 d z e/##/"
        self.tells(0, 1, b, "A1? B1/", "ad/be/", "0 0 0/2 2 2", "be")

    def test_first_in_the_sound(self):
        b = "sign A1 a b/#/sign A2 d c/#/"
        self.tells(0, 1, b, "A1 A2/", "ac/bd/", "0 0 0/1 1 1", "ac")
        b = "sign A1 b a/#/sign A2 d c/#/"
        self.tells(0, 1, b, "A1 A2/", "ad/bc/", "0 0 0/1 1 2", "bc")

    def test_a_sound_before_silence(self):
        # The eighth sound costs as much as silence.
        b = "sign A1 x/#/sign A2 b c d e f g h a/#/"
        self.tells(0, 1, b, "A1 A2/", "x/xa/", "0 0 0/1 7 2", "xa")
        self.tells(0, 1, b, "A2 A1/", "ax/x/", "1 7 0/0 0 1", "ax")

    def test_first_in_whether_a_word_ends(self):
        self.tells(0, 2, ABC, "A1 A2 A3/", "a/ab/bc/c/", "0 0 0/1 0 2/2 0 4", "ab c")
        self.tells(0, 2, ABC, "A1 A1 A1/", "a/aa/", "0 0 0/0 0 2/0 0 1", "aa a")
        self.tells(0, 3, ABC, "A1 A2 A3 A1/", "a/abc/bca/", "0 0 0/1 0 0/2 0 2/0 0 1", "abc a")

    def test_not_by_the_words(self):
        # a and bc: the first word of the lexicon, but a word ends sooner than in ab and c.
        self.tells(0, 2, ABC, "A1 A2 A3/", "a/ab/b/bc/c/", "0 0 0/1 0 2/2 0 5", "ab c")
        # z stands behind b, but the sign that says it stands first.
        self.tells(0, 0, "sign A1 x y z/#/sign A2 b/#/", "A1?/", "b/z/", "0 2 2", "z")

    def test_not_by_the_cost_of_the_first_place(self):
        b = "sign A1 a b/#/sign A2 c d/#/"
        self.tells(0, 1, b, "A1 A2/", "ad/bc/", "0 0 0/1 1 1", "ad")
        self.tells(0, 1, b, "A1 A2/", "add/bc/", "0 1 0/1 0 2", "bc")

    def test_the_same_sound_of_several_signs(self):
        b = "sign A1 a/#/sign A2 a/#/sign A3 a/#/"
        self.tells(0, 1, b, "A3? A2?/", "aa/", "0 0 0/0 0 1", "aa")
        self.tells(0, 1, b, "A3 A2?/", "aa/", "2 0 0/0 0 1", "aa")
        self.tells(0, 1, b, "A3? A2?/", "a/", "0 0 1/0 0 1", "a a")

    def test_silent_of_several_signs(self):
        b = "sign A1/#/sign A2/#/sign B1 a/#/"
        self.tells(0, 1, b, "A2? B1/", "a/", "0 8 0/2 0 1", "a")
        self.tells(0, 1, b, "A2 B1/", "a/", "1 8 0/2 0 1", "a")


class WaysToGetItWrong(ToldCase):
    def test_a_sound_that_goes_on_into_the_next_word(self):
        self.has_none(0, 1, "sign A1 ab/#/sign A2 c/#/", "A1 A2/", "a/bc/")
        self.tells(0, 1, "sign A1 ab a/#/sign A2 c bc/#/", "A1 A2/", "a/bc/", "0 1 1/1 1 2", "a bc")

    def test_silent_signs_alone_as_a_word(self):
        self.has_none(0, 1, "sign A1/#/", "A1 A1/", "a/")
        self.tells(0, 3, "sign A1 a/#/sign A2/#/", "A2 A1 A2 A2/", "a/", "1 8 0/0 0 0/1 8 0/1 8 1", "a")

    def test_the_longest_word_first(self):
        self.tells(0, 3, ABC, "A1 A2 A3 A1/", "ab/abc/ca/", "0 0 0/1 0 1/2 0 0/0 0 3", "ab ca")

    def test_costs_by_signs_numbers(self):
        b = "sign A1/#/sign A2/#/sign B1 a/##/sign C1 x b/#/sign C2 b/#/"
        self.tells(0, 0, b, "C1?/", "b/", "3 1 1", "b")
        self.tells(0, 1, b, "B1 C1/", "a/ab/", "2 0 0/3 1 2", "ab")

    def test_an_end_after_the_last_place_forgotten(self):
        for t, x, row in (("A1/", "a/", "0 0 1"), ("A1 A2/", "a/ab/abc/", "0 0 0/1 0 2")):
            self.tells(0, t.count("A") - 1, ABC, t, x, row, "ab"[:t.count("A")])

    def test_a_break_read_over(self):
        self.has_none(0, 1, ABC, "A1 ... A2/", "a/ab/b/", -8)

    def test_words_out_of_order_taken(self):
        self.has_none(0, 1, ABC, "A1 A2/", "b/a/", -10)

    def test_a_signs_fourth_sound_as_its_third(self):
        b = "sign A1 a b c d e f g h/#/"
        for number, letter in enumerate("abcdefgh"):
            self.tells(0, 0, b, "A1/", letter + "/", f"0 {number} 1", letter)

    def test_a_words_end_counted_as_0(self):
        self.tells(0, 1, ABC, "A1 A2/", "a/b/", "0 0 1/1 0 2", "a b")


class AgainstThePlainWay(ToldCase):
    def test_small_cases(self):
        chance = random.Random(31)
        answered = 0
        for number in range(2500):
            case = some_case(chance)
            row = best(*bytes_of(*case))
            self.assertEqual(row, plain.told_best(*case), case)
            self.assertEqual(said(*bytes_of(*case)), plain.told_said(*case), case)
            if row[0] > 0:
                answered += 1
                self.assertEqual(cost(*bytes_of(*case)), [cost_of_row(case, row[1:])], case)
        self.assertGreater(answered, 800)

    def test_more_words_no_greater_cost(self):
        chance = random.Random(32)
        for number in range(600):
            i, j, b, t, x = case = some_case(chance)
            words = x.split("\n")[:-1]
            fewer = "".join(word + "\n" for word in sorted(chance.sample(words, chance.randint(1, len(words)))))
            row = best(*bytes_of(i, j, b, t, fewer))
            if row[0] > 0:
                more = best(*bytes_of(*case))
                self.assertGreater(more[0], 0)
                self.assertLessEqual(cost_of_row(case, more[1:]), cost_of_row(case, row[1:]))


def cost_of_row(case, row):
    """What a right row of the case's stretch costs, place by place."""
    i, j, b, t, x = case
    sets = [numbers for numbers in plain.row_of(plain.list_of(b), t) if numbers != "..."][i:j + 1]
    total = 0
    for numbers, sign, sound, end in zip(sets, row[0::3], row[1::3], row[2::3]):
        total += 2 * numbers.index(sign) + (7 if sound == 8 else sound) + (3 if end else 0)
    return total


class ManyPlaces(ToldCase):
    T = ("A1 " * 63 + "A1/") * 341
    LAST = 341 * 64 - 1

    def test_as_many_places_as_a_text_has_room_for(self):
        given = bytes_of(0, self.LAST, "sign A1 a/#/", self.T, "a/aa/")
        self.assertEqual(best(*given), [3 * 341 * 64] + [0, 0, 0, 0, 0, 2] * (341 * 32))
        self.assertEqual(said(*given), [341 * 32 * 3 - 1] + (text("aa ") * (341 * 32))[:-1])

    def test_a_word_at_each_place(self):
        given = bytes_of(0, self.LAST, "sign A1 aaaaaaaa/#/", self.T, "aaaaaaaa/" + "a" * 9 + "/")
        self.assertEqual(best(*given), [3 * 341 * 64] + [0, 0, 1] * (341 * 64))

    def test_a_word_over_all_places(self):
        given = bytes_of(0, self.LAST + 1, "sign A1/#/sign A2 a/#/", self.T + "A2/", "a/")
        self.assertEqual(best(*given), [3 * 341 * 64 + 3] + [0, 8, 0] * (341 * 64) + [1, 0, 1])
        self.assertEqual(said(*given), [1, 97])

    def test_no_reading_of_all_places(self):
        self.has_none(0, self.LAST, "sign A1/#/", self.T, "a/")


class NothingKept(ToldCase):
    CASES = (
        (0, 2, RUN_LIST, RUN_TEXT, RUN_LEXICON),
        (0, 0, RUN_LIST, "A2/", RUN_LEXICON),
        (0, 0, RUN_LIST, "A1~%12?[n_3%1234]/", RUN_LEXICON),
        (0, 1, RUN_LIST, "A1 ... A1/", RUN_LEXICON),
        (0, 0, RUN_LIST, "A1", RUN_LEXICON),
    )

    def test_what_is_handed_in_is_as_it_was(self):
        for call in (best, said):
            for case in self.CASES:
                given = bytes_of(*case)
                call(*given)
                self.assertEqual(given, bytes_of(*case))

    def test_the_same_call_answers_the_same_again(self):
        for call in (best, said):
            answers = [call(*bytes_of(*case)) for case in self.CASES]
            answers[0].append(7)
            answers[0][1] = 9
            again = [call(*bytes_of(*case)) for case in reversed(self.CASES)][::-1]
            self.assertEqual(again[1:], answers[1:])
            self.assertNotEqual(again[0], answers[0])

    def test_a_list_of_whole_numbers_is_given_back(self):
        for call in (best, said):
            for case in self.CASES:
                answer = call(*bytes_of(*case))
                self.assertIs(type(answer), list)
                self.assertTrue(all(type(number) is int for number in answer))

    def test_the_arguments_have_their_names(self):
        i, j, b, t, x = bytes_of(0, 0, RUN_LIST, RUN_TEXT, RUN_LEXICON)
        self.assertEqual(best(x=x, t=t, b=b, j=j, i=i), [3, 0, 0, 1])
        self.assertEqual(said(x=x, t=t, b=b, j=j, i=i), [1, 97])


if __name__ == "__main__":
    unittest.main()
