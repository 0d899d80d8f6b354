"""What the calls on stretches refuse, and which of several refusals they tell."""

import itertools
import unittest

from signsounds.sounds import best, check, cost, said, ways
from tests.lexicons import lexicon_text, text, three_letter_words

# Each call on a stretch, and the refusals it tells, in their order.
ALL = (-2, -3, -6, -10, -9, -4, -8, -5)
CALLS = ((cost, ALL), (best, ALL), (said, ALL), (check, ALL), (ways, ALL[:-1]))

LONG_TEXT = 65537
RIGHT = {
    "i": 0,
    "j": 2,
    "b": text("sign A1 a ba/##./#.#/sign A2/#/"),
    "t": text("A1 A2 A1/"),
    "x": text("a/aba/ba/"),
    "r": [0, 0, 0, 1, 8, 0, 0, 1, 2],
}

# For each refusal some ways to bring it about; two of them by different arguments bring about both.
FAULTS = {
    -2: (
        {"b": [0] * 1048577},
        {"t": [0] * LONG_TEXT},
        {"x": [0] * LONG_TEXT},
        {"r": [0] * 65537},
        {"t": text("A1 " * 21845 + "A1/")[-LONG_TEXT:]},
        {"x": lexicon_text([each + "a" * 12 for each in three_letter_words(4096)])[:-1] + [97, 10]},
    ),
    -3: ({"b": []}, {"b": text("sign A1 a ba/##./#.#/sign A2/#")}, {"b": text("sign A2/#/sign A1 a ba/##./#.#/")}),
    -6: ({"t": []}, {"t": text("A1 A2 A1")}, {"t": text("A1 A2 (A1)/")}, {"t": text("A7 ... A1//")}),
    -10: ({"x": []}, {"x": text("a/aba/ba")}, {"x": text("b/a/")}, {"x": lexicon_text(three_letter_words(4097))}),
    -9: (
        {"b": text("sign A1 a ba/##./#.#/")},
        {"t": text("A1 A2 A3/")},
        {"t": text("A1 A2 A1 A1a/")},
        {"t": text("A1 A2 A1[nAa1?]/")},
        {"t": text("B1~%1234? A1 ... A2/")},
    ),
    -4: (
        {"i": 3},
        {"j": 3},
        {"i": 2, "j": 1},
        {"i": 3, "j": 3},
        {"i": 4294967295, "j": 4294967295},
        {"j": 4294967295},
        {"i": 4294967295},
        {"t": text("A1 _1 A2/")},
        {"t": text("A1 A2 .../")},
    ),
    -8: ({"t": text("A1 ... A2 A1/")}, {"t": text("A1 A2/.../A1/")}, {"t": text("A1 _1 ... A2 ... A1/")}),
    -5: (
        {"x": text("ab/")},
        {"b": text("sign A1 ab/##./#.#/sign A2 bb/#/")},
        {"t": text("A2 A2 A2/")},
        {"t": text("A1 A2 _1%1234/"), "b": text("sign A1 a/##/sign A2/##/")},
        {"r": []},
        {"r": [0, 0, 0, 1, 8, 0, 0, 1, 1]},
        {"r": [4294967295] * 9},
        {"r": [0, 0, 1] * 21845},
    ),
}


def answer(call, arguments):
    """What the call answers: check alone is handed a row."""
    return call(**{name: value for name, value in arguments.items() if name != "r" or call is check})


class RefusalCase(unittest.TestCase):
    def tells(self, changes, code):
        """Each call refuses the right arguments so changed with this code, where it has that refusal."""
        given = {**RIGHT, **changes}
        before = {name: value if isinstance(value, int) else list(value) for name, value in given.items()}
        for call, codes in CALLS:
            if code in codes and (call is check or "r" not in changes):
                self.assertEqual(answer(call, given), [code], self.shown(call, changes))
        self.assertEqual(given, before)

    def shown(self, call, changes):
        return call.__name__, {name: str(value)[:80] for name, value in changes.items()}


class OneAlone(RefusalCase):
    def test_nothing_is_refused(self):
        for call, codes in CALLS:
            self.assertGreaterEqual(answer(call, dict(RIGHT))[0], 0)

    def test_each(self):
        for code, faults in FAULTS.items():
            for changes in faults:
                self.tells(changes, code)
        self.tells({"b": text("sign A2/#/")}, -9)
        self.tells({"i": 1, "j": 1}, -5)

    def test_as_long_as_can_be(self):
        self.tells({"b": [0] * 1048576}, -3)
        self.tells({"t": [0] * 65536}, -6)
        self.tells({"x": [0] * 65536}, -10)
        self.tells({"r": [0] * 65536}, -5)
        long = text("A1/" * 511) + text("A1 " * 64)[:-1] + [10]
        for call, codes in CALLS:
            self.assertGreaterEqual(answer(call, {**RIGHT, "t": long, "j": 0, "r": [0, 0, 1]})[0], 0)

    def test_where_there_is_no_reading_ways_answers_none(self):
        for changes in FAULTS[-5]:
            if "r" not in changes:
                self.assertEqual(answer(ways, {**RIGHT, **changes}), [0, 0])


class TwoAtATime(RefusalCase):
    def test_by_different_arguments(self):
        order = list(FAULTS)
        shown = set()
        for first, second in itertools.combinations(order, 2):
            for one, two in itertools.product(FAULTS[first], FAULTS[second]):
                if not set(one) & set(two):
                    self.tells({**one, **two}, first)
                    shown.add((first, second))
        # Both a wrong text and a break come by the text alone: told below.
        self.assertEqual(set(itertools.combinations(order, 2)) - shown, {(-6, -8)})

    def test_by_the_same_argument(self):
        self.tells({"t": text("A1 ... A2 A1")}, -6)
        self.tells({"t": text("A1 ... A2 A3/")}, -9)
        self.tells({"t": text("A1 ... A2/")}, -4)
        self.tells({"t": text("A1 ... A2/"), "j": 1, "x": text("ab/")}, -8)
        self.tells({"t": text("A1 ... B1")}, -6)
        self.tells({"t": text("B1/")}, -9)
        self.tells({"t": text("A2 A2 A2/"), "j": 3}, -4)
        self.tells({"t": text("A2 ... A2/"), "j": 1}, -8)

    def test_an_unknown_sign_outside_the_stretch(self):
        self.tells({"t": text("A1 A2 A1 ... B1/"), "j": 0}, -9)
        self.tells({"t": text("B1 ... A1 A2 A1/"), "i": 1, "j": 3}, -9)

    def test_all_at_once(self):
        changes = {"i": 9, "j": 8, "b": [0] * 1048577, "t": [0] * LONG_TEXT, "x": [0] * LONG_TEXT}
        self.tells(changes, -2)
        self.tells({**changes, "r": [0] * 65537}, -2)
        self.tells({"i": 9, "j": 8, "b": [], "t": [], "x": [], "r": [0] * 65537}, -2)
        self.tells({**changes, "b": []}, -2)
        self.tells({**changes, "b": [], "t": []}, -2)
        self.tells({**changes, "b": [], "t": [], "x": []}, -3)
        self.tells({**changes, "b": RIGHT["b"], "t": [], "x": []}, -6)
        self.tells({**changes, "b": RIGHT["b"], "t": text("B1 ... A1/"), "x": []}, -10)
        self.tells({**changes, "b": RIGHT["b"], "t": text("B1 ... A1/"), "x": text("b/")}, -9)
        self.tells({**changes, "b": RIGHT["b"], "t": text("A2 ... A1/"), "x": text("b/")}, -4)
        self.tells({"i": 0, "j": 1, "t": text("A2 ... A1/"), "x": text("b/")}, -8)
        self.tells({"i": 0, "j": 1, "t": text("A2 A1/"), "x": text("b/")}, -5)


class Places(RefusalCase):
    def test_every_stretch_of_a_text(self):
        for i, j in itertools.product(range(6), repeat=2):
            changes = {"i": i, "j": j, "t": text("A1 A1 _1 A1 _2%1 A1/"), "x": text("a/")}
            if i <= j < 4:
                self.assertEqual(answer(cost, {**RIGHT, **changes}), [3 * (j - i + 1)])
            else:
                self.tells(changes, -4)

    def test_a_text_without_places(self):
        for written in ("_1/", ".../", "... _2%123 .../", "<_1>/"):
            for i, j in ((0, 0), (0, 1), (1, 0), (1, 1), (4294967295, 0), (0, 4294967295)):
                self.tells({"i": i, "j": j, "t": text(written)}, -4)


if __name__ == "__main__":
    unittest.main()
