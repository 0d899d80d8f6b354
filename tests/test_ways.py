"""ways: how many readings a stretch has."""

import random
import unittest

from signsounds.sounds import ways
from tests import plain
from tests.cases import RUN_LEXICON, RUN_LIST, RUN_TEXT, bytes_of, some_case

ABC = "sign A1 a/#/sign A2 b/#/sign A3 c/#/"
MODULUS = 2 ** 64


def fibonacci(number):
    one, two = 0, 1
    for step in range(number):
        one, two = two, one + two
    return one


class WaysCase(unittest.TestCase):
    def counts(self, i, j, b, t, x, count):
        self.assertEqual(ways(*bytes_of(i, j, b, t, x)), [0, count], (i, j, b, t, x))


class ByHand(WaysCase):
    def test_the_run_that_the_document_tells(self):
        self.counts(0, 2, RUN_LIST, RUN_TEXT, RUN_LEXICON, 13)

    def test_no_reading(self):
        self.counts(0, 0, RUN_LIST, "A2/", RUN_LEXICON, 0)
        self.counts(0, 0, ABC, "A1/", "b/", 0)
        self.counts(0, 0, ABC, "A1/", "ab/", 0)
        self.counts(0, 3, "sign A1/#/", "A1 A1 A1 A1/", "a/", 0)
        self.counts(0, 0, "sign A1 a/##/", "_1%1234/", "a/", 0)
        self.counts(0, 1, "sign A1 a/##/", "A1 _1%1234/", "a/", 0)

    def test_one_place(self):
        self.counts(0, 0, RUN_LIST, RUN_TEXT, RUN_LEXICON, 2)
        self.counts(0, 0, RUN_LIST, RUN_TEXT, "a/", 1)
        self.counts(1, 1, RUN_LIST, RUN_TEXT, RUN_LEXICON, 0)

    def test_where_words_end(self):
        # ab; a and b; a with b silent; b with a silent.
        self.counts(0, 1, ABC, "A1 A2/", "a/ab/b/", 4)
        self.counts(0, 1, ABC, "A1 A2/", "ab/", 1)
        self.counts(0, 1, ABC, "A1 A2/", "a/b/", 3)
        self.counts(0, 1, ABC, "A1 A2/", "a/", 1)

    def test_only_the_stretch(self):
        self.counts(1, 2, ABC, "A3 A1 A2 ... A3/", "a/ab/b/", 4)
        self.assertEqual(ways(*bytes_of(1, 3, ABC, "A3 A1 A2 ... A3/", "a/ab/b/")), [-8])

    def test_the_signs_of_a_set_are_counted_not_the_sounds_alone(self):
        b = "sign A1 a/#/sign A2 a/#/sign A3 b a/#/"
        self.counts(0, 0, b, "A1/", "a/", 1)
        self.counts(0, 0, b, "A1?/", "a/", 3)
        self.counts(0, 0, b, "A1?/", "a/b/", 4)
        self.counts(0, 1, b, "A1? A2/", "a/", 3 * 1 + 3 * 1 + 3 * 1)
        self.counts(0, 1, b, "A2 A1?/", "ab/", 1)

    def test_a_dearer_sign_that_says_the_same(self):
        b = "sign A1 b a/#/sign A2 a/#/"
        self.counts(0, 0, b, "A1?/", "a/", 2)
        self.counts(0, 0, "sign A1 a/#/sign A2 b a/#/", "A1?/", "a/", 2)
        self.counts(0, 0, "sign A1 x y z a/#/sign A2 a/#/sign A3 a/#/", "A1?/", "a/", 3)


class ManyReadings(WaysCase):
    """Of n signs that say a, and the word a: a word of k places says it at one of k, so there are fibonacci(2 n)."""

    def test_as_many_as_told(self):
        for places in (1, 2, 3, 10, 46, 47, 48, 64):
            count = fibonacci(2 * places)
            self.counts(0, places - 1, ABC, " ".join(["A1"] * places) + "/", "a/", count % MODULUS)
        self.assertLess(fibonacci(2 * 46), MODULUS)
        self.assertGreater(fibonacci(2 * 47), MODULUS)

    def test_the_remainder_by_2_to_the_64th(self):
        b = "sign A1 a/#/sign A2 a/#/sign A3 a/#/"
        for places in (20, 30, 50, 64):
            count = 3 ** places * fibonacci(2 * places)
            self.counts(0, places - 1, b, " ".join(["A1?"] * places) + "/", "a/", count % MODULUS)

    def test_a_remainder_of_0(self):
        b = "sign A1 a/#/sign A2 a/#/"
        for places, count in ((63, 2 ** 63 * fibonacci(126) % MODULUS), (64, 0)):
            self.counts(0, places - 1, b, " ".join(["A1?"] * places) + "/", "a/", count)

    def test_as_many_places_as_a_text_has_room_for(self):
        t = ("A1 " * 63 + "A1/") * 341
        self.counts(0, 341 * 64 - 1, ABC, t, "a/", fibonacci(2 * 341 * 64) % MODULUS)
        self.counts(0, 341 * 64 - 1, "sign A1/#/", t, "a/", 0)


class AgainstThePlainWay(WaysCase):
    def test_small_cases(self):
        chance = random.Random(51)
        answered = 0
        for number in range(2500):
            case = some_case(chance)
            told = plain.told_ways(*case)
            self.assertEqual(ways(*bytes_of(*case)), told, case)
            answered += len(told) == 2 and told[1] > 1
        self.assertGreater(answered, 500)


class NothingKept(WaysCase):
    CASES = (
        (0, 2, RUN_LIST, RUN_TEXT, RUN_LEXICON),
        (0, 0, RUN_LIST, "A2/", RUN_LEXICON),
        (0, 0, RUN_LIST, "A1~%12?[n_3%1234]/", RUN_LEXICON),
        (0, 1, RUN_LIST, "A1 ... A1/", RUN_LEXICON),
        (0, 0, RUN_LIST, "A1", RUN_LEXICON),
    )

    def test_what_is_handed_in_is_as_it_was(self):
        for case in self.CASES:
            given = bytes_of(*case)
            ways(*given)
            self.assertEqual(given, bytes_of(*case))

    def test_the_same_call_answers_the_same_again(self):
        answers = [ways(*bytes_of(*case)) for case in self.CASES]
        self.assertEqual(answers, [[0, 13], [0, 0], [0, 2], [-8], [-6]])
        answers[0][1] = 7
        self.counts(*self.CASES[0], 13)

    def test_a_list_of_whole_numbers_is_given_back(self):
        for case in self.CASES:
            answer = ways(*bytes_of(*case))
            self.assertIs(type(answer), list)
            self.assertTrue(all(type(number) is int for number in answer))

    def test_the_arguments_have_their_names(self):
        i, j, b, t, x = bytes_of(0, 2, RUN_LIST, RUN_TEXT, RUN_LEXICON)
        self.assertEqual(ways(x=x, t=t, b=b, j=j, i=i), [0, 13])


if __name__ == "__main__":
    unittest.main()
