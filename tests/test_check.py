"""check: the cost of a reading, told by its row."""

import itertools
import random
import unittest

from signsounds.sounds import best, check, cost
from tests import plain
from tests.cases import RUN_LEXICON, RUN_LIST, RUN_TEXT, bytes_of, some_case

GREATEST = 4294967295
ABC = "sign A1 a/#/sign A2 b/#/sign A3 c/#/"


class CheckCase(unittest.TestCase):
    def costs(self, i, j, b, t, x, row, answer):
        """check answers this for the row, written with blanks and slashes between places."""
        numbers = [int(number) for number in row.replace("/", " ").split()]
        self.assertEqual(check(*bytes_of(i, j, b, t, x), numbers), [answer], (i, j, b, t, x, row))


class ByHand(CheckCase):
    def test_the_run_that_the_document_tells(self):
        self.costs(0, 2, RUN_LIST, RUN_TEXT, RUN_LEXICON, "0 0 0/1 8 0/0 1 2", 11)

    def test_every_reading_of_the_run(self):
        rows = {
            "0 0 0/1 8 0/0 8 1": 0 + 7 + 7 + 3,
            "0 0 0/1 8 0/0 1 2": 0 + 7 + 1 + 3,
            "0 1 0/1 8 0/0 8 3": 1 + 7 + 7 + 3,
            "0 8 0/1 8 0/0 0 1": 7 + 7 + 0 + 3,
            "0 8 0/1 8 0/0 1 3": 7 + 7 + 1 + 3,
            "0 0 1/1 8 0/0 0 1": 0 + 3 + 7 + 0 + 3,
            "0 0 1/1 8 0/0 1 3": 0 + 3 + 7 + 1 + 3,
            "0 1 3/1 8 0/0 0 1": 1 + 3 + 7 + 0 + 3,
            "0 1 3/1 8 0/0 1 3": 1 + 3 + 7 + 1 + 3,
            "0 0 0/1 8 1/0 0 1": 0 + 7 + 3 + 0 + 3,
            "0 0 0/1 8 1/0 1 3": 0 + 7 + 3 + 1 + 3,
            "0 1 0/1 8 3/0 0 1": 1 + 7 + 3 + 0 + 3,
            "0 1 0/1 8 3/0 1 3": 1 + 7 + 3 + 1 + 3,
        }
        for row, answer in rows.items():
            self.costs(0, 2, RUN_LIST, RUN_TEXT, RUN_LEXICON, row, answer)

    def test_readings_that_are_not_told(self):
        b = "sign A1 a b/#/sign A2 b/#/sign A3 x y b/#/"
        self.costs(0, 0, b, "A1?/", "b/", "0 1 1", 1 + 3)
        self.costs(0, 0, b, "A1?/", "b/", "1 0 1", 2 + 0 + 3)
        self.costs(0, 0, b, "A1?/", "b/", "2 2 1", 4 + 2 + 3)
        self.costs(0, 1, b, "A1? A2/", "b/", "2 8 0/1 0 1", 4 + 7 + 0 + 3)

    def test_signs_that_stand_before_in_the_set(self):
        b = "sign A1 a/##/sign A2 a/#/sign B1 a/##/sign B2 a/##/"
        self.costs(0, 0, b, "B2/", "a/", "3 0 1", 3)
        self.costs(0, 0, b, "B2?/", "a/", "3 0 1", 2 + 3)
        self.costs(0, 0, b, "B2%1234/", "a/", "3 0 1", 4 + 3)
        self.costs(0, 0, b, "_2%1234/", "a/", "3 0 1", 6 + 3)

    def test_silent_signs(self):
        self.costs(0, 2, ABC, "A1 A2 A3/", "b/", "0 8 0/1 0 0/2 8 1", 7 + 0 + 7 + 3)
        self.costs(0, 2, ABC, "A1 A2 A3/", "ac/", "0 0 0/1 8 0/2 0 1", 7 + 3)

    def test_the_eighth_sound_and_silence(self):
        b = "sign A1 a b c d e f g h/#/"
        self.costs(0, 0, b, "A1/", "h/", "0 7 1", 7 + 3)
        self.costs(0, 0, b, "A1/", "h/", "0 8 1", -5)
        self.costs(0, 1, b, "A1 A1/", "h/", "0 7 0/0 8 1", 7 + 7 + 3)


class NoReadingsRow(CheckCase):
    RUN = (0, 2, RUN_LIST, RUN_TEXT, RUN_LEXICON)
    ROW = [0, 0, 0, 1, 8, 0, 0, 1, 2]

    def is_none(self, row):
        self.assertEqual(check(*bytes_of(*self.RUN), row), [-5], row)

    def test_one_number_changed(self):
        told = {tuple(row) for answer, row in plain.told_readings(*[
            each if isinstance(each, int) else each.replace("/", "\n") for each in self.RUN
        ])}
        right = 0
        for at in range(9):
            for number in list(range(12)) + [255, 256, 65536, GREATEST - 1, GREATEST]:
                row = list(self.ROW)
                row[at] = number
                if tuple(row) in told:
                    right += 1
                else:
                    self.is_none(row)
        # Nine times the row itself; no other reading differs from it in one number.
        self.assertEqual(right, 9)

    def test_more_or_fewer_numbers(self):
        for size in range(9):
            self.is_none(self.ROW[:size])
            self.is_none(self.ROW[9 - size:] if size else [])
        for more in (0, 1, 2, 8, GREATEST):
            self.is_none(self.ROW + [more])
            self.is_none([more] + self.ROW)
        self.is_none(self.ROW + [0, 0, 1])
        self.is_none([0, 0, 1] + self.ROW)
        self.is_none(self.ROW + self.ROW)
        self.is_none([9] + self.ROW)
        self.is_none(self.ROW * 3000)

    def test_numbers_as_great_as_can_be(self):
        self.is_none([GREATEST] * 9)
        for at in range(9):
            self.is_none(self.ROW[:at] + [GREATEST] + self.ROW[at + 1:])

    def test_a_row_of_another_stretch(self):
        t = "A1 A2 A1 A2/"
        self.costs(0, 0, ABC, t, "a/ab/b/", "0 0 1", 3)
        self.costs(1, 1, ABC, t, "a/ab/b/", "0 0 1", -5)
        self.costs(1, 1, ABC, t, "a/ab/b/", "1 0 3", 3)
        self.costs(0, 0, ABC, t, "a/ab/b/", "1 0 3", -5)
        self.costs(0, 1, ABC, t, "a/ab/b/", "0 0 1", -5)
        self.costs(0, 0, ABC, t, "a/ab/b/", "0 0 0/1 0 2", -5)
        self.costs(1, 2, ABC, t, "a/ab/b/", "0 0 0/1 0 2", -5)
        self.costs(2, 3, ABC, t, "a/ab/b/", "0 0 0/1 0 2", 3)
        self.costs(0, 2, ABC, t, "a/ab/b/", "0 0 0/1 0 2", -5)

    def test_a_sign_that_is_not_of_the_set(self):
        b = "sign A1 a/#/sign A2 a/#/sign B1 a/##/"
        self.costs(0, 0, b, "A1/", "a/", "1 0 1", -5)
        self.costs(0, 0, b, "A1?/", "a/", "1 0 1", 2 + 3)
        self.costs(0, 0, b, "A1?/", "a/", "2 0 1", -5)
        self.costs(0, 0, b, "A1?/", "a/", "3 0 1", -5)
        self.costs(0, 0, b, "_1%1234/", "a/", "2 0 1", -5)
        self.costs(0, 0, b, "B1/", "a/", "0 0 1", -5)
        self.costs(0, 1, b, "A1 B1/", "a/", "0 0 0/0 8 1", -5)

    def test_a_place_that_may_have_been_nothing(self):
        b = "sign A1 a/##/"
        self.costs(0, 0, b, "_1%1234/", "a/", "0 0 1", -5)
        self.costs(0, 0, b, "_2%1234/", "a/", "0 0 1", 3)

    def test_a_sound_that_the_sign_has_not(self):
        b = "sign A1 a b c d/#/sign A2 e/#/sign A3/#/"
        for sound in (4, 5, 6, 7, 9, 10, GREATEST):
            for x in ("a/", "d/", "e/"):
                self.costs(0, 0, b, "A1/", x, f"0 {sound} 1", -5)
        self.costs(0, 0, b, "A1/", "d/", "0 3 1", 3 + 3)
        self.costs(0, 0, b, "A1/", "d/", "0 2 1", -5)
        self.costs(0, 0, b, "A2/", "e/", "1 1 1", -5)
        self.costs(0, 0, b, "A3/", "a/", "2 0 1", -5)
        self.costs(0, 1, b, "A2 A3/", "e/", "1 0 0/2 9 1", -5)

    def test_a_word_that_is_not_the_one_that_ends(self):
        x = "a/ab/b/"
        for end in (0, 1, 3, 4, GREATEST):
            self.costs(0, 1, ABC, "A1 A2/", x, f"0 0 0/1 0 {end}", -5)
        self.costs(0, 1, ABC, "A1 A2/", x, "0 0 1/1 0 3", 6)
        for end in (2, 3, 4, GREATEST):
            self.costs(0, 1, ABC, "A1 A2/", x, f"0 0 {end}/1 0 3", -5)
        for end in (0, 1, 2, 4, GREATEST):
            self.costs(0, 1, ABC, "A1 A2/", x, f"0 0 1/1 0 {end}", -5)

    def test_what_is_said_is_no_word(self):
        self.costs(0, 1, ABC, "A1 A2/", "a/abc/", "0 0 0/1 0 2", -5)
        self.costs(0, 1, ABC, "A2 A1/", "a/ab/b/", "1 0 0/0 0 2", -5)
        self.costs(0, 0, ABC, "A2/", "a/", "1 0 1", -5)


class WaysToGetItWrong(CheckCase):
    def test_a_sound_that_goes_on_into_the_next_word(self):
        b = "sign A1 ab/#/sign A2 c/#/"
        for ends in itertools.product(range(4), repeat=2):
            self.costs(0, 1, b, "A1 A2/", "a/bc/", f"0 0 {ends[0]}/1 0 {ends[1]}", -5)

    def test_silent_signs_alone_as_a_word(self):
        for end in range(3):
            self.costs(0, 0, ABC, "A1/", "a/", f"0 8 {end}", -5)
        self.costs(0, 1, ABC, "A1 A2/", "a/", "0 0 1/1 8 1", -5)
        self.costs(0, 1, ABC, "A1 A2/", "a/", "0 0 1/1 8 0", -5)
        self.costs(0, 1, ABC, "A1 A2/", "a/", "0 0 0/1 8 1", 7 + 3)
        self.costs(0, 1, ABC, "A1 A2/", "b/", "0 8 1/1 0 1", -5)

    def test_an_end_after_the_last_place_forgotten(self):
        self.costs(0, 0, ABC, "A1/", "a/", "0 0 0", -5)
        self.costs(0, 1, ABC, "A1 A2/", "a/ab/", "0 0 1/1 0 0", -5)
        self.costs(0, 1, ABC, "A1 A2/", "a/ab/", "0 0 0/1 0 0", -5)

    def test_a_break_read_over(self):
        self.costs(0, 1, ABC, "A1 ... A2/", "a/ab/b/", "0 0 0/1 0 2", -8)
        self.costs(0, 1, ABC, "A1 ... A2/", "a/ab/b/", "0 0 1/1 0 3", -8)

    def test_words_out_of_order_taken(self):
        self.costs(0, 0, ABC, "A1/", "b/a/", "0 0 2", -10)

    def test_a_signs_fourth_sound_as_its_third(self):
        b = "sign A1 a b c d e f g h/#/"
        for number, letter in enumerate("abcdefgh"):
            for sound in range(10):
                answer = number + 3 if sound == number else -5
                self.costs(0, 0, b, "A1/", letter + "/", f"0 {sound} 1", answer)

    def test_a_words_end_counted_as_0(self):
        self.costs(0, 0, ABC, "A1/", "a/b/", "0 0 1", 3)
        self.costs(0, 0, ABC, "A2/", "a/b/", "1 0 1", -5)
        self.costs(0, 0, ABC, "A2/", "a/b/", "1 0 2", 3)


class AgainstThePlainWay(CheckCase):
    def test_every_reading_of_small_cases(self):
        chance = random.Random(41)
        for number in range(1000):
            case = some_case(chance)
            found = plain.told_readings(*case)
            if isinstance(found, int):
                self.assertEqual(check(*bytes_of(*case), [0, 0, 1]), [found], case)
            else:
                for answer, row in found[:40]:
                    self.assertEqual(check(*bytes_of(*case), row), [answer], (case, row))

    def test_the_row_that_best_tells(self):
        chance = random.Random(42)
        for number in range(1500):
            case = some_case(chance)
            row = best(*bytes_of(*case))
            if row[0] > 0:
                self.assertEqual(check(*bytes_of(*case), row[1:]), cost(*bytes_of(*case)), case)
                self.assertEqual(check(*bytes_of(*case), row), [-5], case)

    def test_rows_changed_a_little(self):
        chance = random.Random(43)
        right = 0
        for number in range(1000):
            case = some_case(chance)
            found = plain.told_readings(*case)
            if isinstance(found, int) or not found:
                continue
            costs = {tuple(row): answer for answer, row in found}
            for change in range(12):
                row = list(chance.choice(found)[1])
                for place in range(chance.randint(1, 2)):
                    row[chance.randrange(len(row))] = chance.choice((0, 1, 2, 3, 4, 7, 8, 9))
                answer = costs.get(tuple(row), -5)
                right += answer != -5
                self.assertEqual(check(*bytes_of(*case), row), [answer], (case, row))
        self.assertGreater(right, 300)

    def test_every_row_of_one_place(self):
        b, x = "sign A1 a b/#/sign A2 b/#/sign B1 a/#/".replace("/", "\n"), "a\nb\nbb\n"
        for t in ("A1\n", "A2?\n", "A1%1?\n", "B1\n"):
            case = (0, 0, b, t, x)
            costs = {tuple(row): answer for answer, row in plain.told_readings(*case)}
            for row in itertools.product(range(4), range(10), range(5)):
                self.assertEqual(check(*bytes_of(*case), list(row)), [costs.get(row, -5)], (t, row))


class ManyPlaces(CheckCase):
    def test_a_row_of_30000_numbers(self):
        t = ("A1 " * 63 + "A1/") * 200
        given = bytes_of(0, 9999, "sign A1 a/#/", t, "a/aa/")
        self.assertEqual(check(*given, [0, 0, 0, 0, 0, 2] * 5000), [15000])
        self.assertEqual(check(*given, [0, 0, 1] * 10000), [30000])
        self.assertEqual(check(*given, [0, 0, 0] + [0, 8, 0] * 9998 + [0, 0, 2]), [7 * 9998 + 3])
        self.assertEqual(check(*given, [0, 0, 0] * 10000), [-5])
        self.assertEqual(check(*given, [0, 8, 0] * 9999 + [0, 8, 1]), [-5])

    def test_a_row_of_65536_numbers_at_most(self):
        t = ("A1 " * 63 + "A1/") * 341
        given = bytes_of(0, 341 * 64 - 1, "sign A1 a/#/", t, "a/aa/")
        self.assertEqual(check(*given, [0, 0, 1] * (341 * 64)), [3 * 341 * 64])
        self.assertEqual(check(*given, [0, 0, 1] * 21845 + [0]), [-5])
        self.assertEqual(check(*given, [0, 0, 1] * 21845 + [0, 0]), [-2])


class NothingKept(CheckCase):
    CASES = (
        (0, 2, RUN_LIST, RUN_TEXT, RUN_LEXICON, [0, 0, 0, 1, 8, 0, 0, 1, 2]),
        (0, 2, RUN_LIST, RUN_TEXT, RUN_LEXICON, [0, 0, 0, 1, 8, 0, 0, 1, 1]),
        (0, 0, RUN_LIST, "A2/", RUN_LEXICON, [GREATEST]),
        (0, 1, RUN_LIST, "A1 ... A1/", RUN_LEXICON, [0, 0, 1, 0, 0, 1]),
        (0, 0, RUN_LIST, "A1", RUN_LEXICON, []),
    )

    def test_what_is_handed_in_is_as_it_was(self):
        for case in self.CASES:
            given, row = bytes_of(*case[:5]), list(case[5])
            check(*given, row)
            self.assertEqual((given, row), (bytes_of(*case[:5]), case[5]))

    def test_the_same_call_answers_the_same_again(self):
        answers = [check(*bytes_of(*case[:5]), list(case[5])) for case in self.CASES]
        self.assertEqual(answers, [[11], [-5], [-5], [-8], [-6]])
        answers[0].append(7)
        self.assertEqual(check(*bytes_of(*self.CASES[0][:5]), list(self.CASES[0][5])), [11])

    def test_a_list_of_whole_numbers_is_given_back(self):
        for case in self.CASES:
            answer = check(*bytes_of(*case[:5]), list(case[5]))
            self.assertIs(type(answer), list)
            self.assertEqual([type(number) for number in answer], [int])

    def test_the_arguments_have_their_names(self):
        i, j, b, t, x = bytes_of(0, 0, RUN_LIST, RUN_TEXT, RUN_LEXICON)
        self.assertEqual(check(r=[0, 0, 1], x=x, t=t, b=b, j=j, i=i), [3])


if __name__ == "__main__":
    unittest.main()
