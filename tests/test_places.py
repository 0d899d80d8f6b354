"""What a place may have been: told by cost, in lists whose signs have each a sound that no other sign has."""

import itertools
import random
import unittest

from signsounds.sounds import cost
from tests import plain
from tests.lexicons import LETTERS, text

SHAPES = {
    # Three cells wide and high: the left half is one cell wide, the upper half one cell high.
    "A1": ["###", "#.#", "###"],
    "A2": ["#.#", "#.#", "###"],
    "A3": ["###", "..#", "###"],
    "A3a": ["###", "#.#", "#.#"],
    "Aa1": ["##.", "#.#", "###"],
    "Aa2": [".##", "#.#", "###"],
    "B1": ["#"],
    "B2": ["##"],
    "B3": ["#", "#"],
    "B4": ["##", "##"],
    "Ba1": ["####", "####"],
}


def list_text(shapes):
    """The list's text; sign k says the k-th pair of letters."""
    return "".join(
        f"sign {name} {sound_of(number)}/" + "".join(row + "/" for row in rows)
        for number, (name, rows) in enumerate(shapes.items())
    )


def sound_of(number):
    return LETTERS[number // 26] + LETTERS[number % 26]


def set_at(shapes, written, place=0):
    """The numbers of the signs that the place may have been, in the order of their costs."""
    b, t = text(list_text(shapes)), text(written)
    found = []
    for number in range(len(shapes)):
        answer = cost(place, place, b, t, text(sound_of(number) + "/"))
        if answer != [-5]:
            found.append((answer[0], number))
    found.sort()
    # Each sign costs twice how many of the set stand before it, and a word 3.
    assert [answer for answer, number in found] == [3 + 2 * k for k in range(len(found))], found
    return [number for answer, number in found]


class PlaceCase(unittest.TestCase):
    def may_be(self, piece, names):
        numbers = list(SHAPES)
        self.assertEqual([numbers[number] for number in set_at(SHAPES, piece + "/")], names.split(), piece)


class ByHand(PlaceCase):
    def test_a_certain_sign_is_itself_alone(self):
        for name in SHAPES:
            self.may_be(name, name)
            self.may_be(name + "~", name)

    def test_uncertain_signs_are_of_their_class(self):
        self.may_be("A1?", "A1 A2 A3 A3a")
        self.may_be("A3a?", "A1 A2 A3 A3a")
        self.may_be("Aa2?", "Aa1 Aa2")
        self.may_be("B2?", "B1 B2 B3 B4")
        self.may_be("Ba1?", "Ba1")
        self.may_be("A1~?", "A1 A2 A3 A3a")

    def test_damaged_signs_look_the_same_where_they_are_not_damaged(self):
        self.may_be("A1%1", "A1 Aa2")
        self.may_be("A1%2", "A1 A2 Aa1")
        self.may_be("A1%3", "A1 A3")
        self.may_be("A1%4", "A1 A3a")
        self.may_be("A1%12", "A1 A2 Aa1 Aa2")
        self.may_be("A1%23", "A1 A2 A3 Aa1")
        self.may_be("A1%1234", "A1 A2 A3 A3a Aa1 Aa2")
        self.may_be("Aa2%1", "A1 Aa2")
        self.may_be("Aa2%2", "Aa2")
        self.may_be("Aa2%12", "A1 A2 Aa1 Aa2")

    def test_damaged_mirrored_signs_are_seen_mirrored(self):
        # Seen mirrored, the cell that's alone in the upper left half is the shape's upper right one.
        self.may_be("A1~%1", "A1 Aa1")
        self.may_be("Aa1~%1", "A1 Aa1")
        self.may_be("A1~%2", "A1 A2 Aa2")
        self.may_be("A1~%4", "A1 A3 A3a")
        self.may_be("A1~%3", "A1")
        self.may_be("A1~%12", "A1 A2 Aa1 Aa2")

    def test_width_and_height_are_the_same(self):
        self.may_be("B1%1234", "B1")
        self.may_be("B2%1234", "B2")
        self.may_be("B3%1234", "B3")
        self.may_be("B4%1234", "B4")
        self.may_be("Ba1%1234", "Ba1")

    def test_both_damaged_and_uncertain(self):
        self.may_be("A1%2?", "A1 A2 A3 A3a Aa1")
        self.may_be("Aa1%12?", "A1 A2 Aa1 Aa2")
        self.may_be("B1%1?", "B1 B2 B3 B4")
        self.may_be("A1~%1?", "A1 A2 A3 A3a Aa1")

    def test_gaps_damaged_all_over(self):
        self.may_be("_1%1234", "B1")
        self.may_be("_2%1234", "B1 B2 B3 B4")
        self.may_be("_3%1234", "A1 A2 A3 A3a Aa1 Aa2 B1 B2 B3 B4")
        self.may_be("_4%1234", " ".join(SHAPES))
        self.may_be("_32%1234", " ".join(SHAPES))

    def test_one_cell_is_in_the_fourth_quarter(self):
        shapes = {"A1": ["#"], "A2": ["#"], "B1": ["#"]}
        for quarters in ("%1", "%2", "%3", "%123", "%4", "%1234"):
            self.assertEqual(set_at(shapes, f"A1{quarters}/"), [0, 1, 2])
        shapes = {"A1": ["#.#"], "A2": ["###"], "A3": ["##", "##"]}
        for quarters, numbers in (("1", [0]), ("2", [0]), ("3", [0]), ("123", [0]), ("4", [0, 1]), ("34", [0, 1])):
            self.assertEqual(set_at(shapes, f"A1%{quarters}/"), numbers)
        shapes = {"A1": ["#", ".", "#"], "A2": ["#", "#", "#"]}
        for quarters, numbers in (("1", [0]), ("2", [0]), ("3", [0]), ("123", [0]), ("4", [0, 1]), ("24", [0, 1])):
            self.assertEqual(set_at(shapes, f"A1%{quarters}/"), numbers)

    def test_a_place_that_may_have_been_nothing(self):
        b = text("sign A1 a/##/##/")
        self.assertEqual(cost(0, 0, b, text("_2%1234/"), text("a/")), [3])
        self.assertEqual(cost(0, 0, b, text("_1%1234/"), text("a/")), [-5])
        self.assertEqual(cost(0, 1, b, text("A1 _1%1234/"), text("a/aa/")), [-5])
        self.assertEqual(cost(0, 0, b, text("A1 _1%1234/"), text("a/aa/")), [3])
        self.assertEqual(cost(1, 1, b, text("A1 _1%1234/"), text("a/aa/")), [-5])
        self.assertEqual(cost(2, 2, b, text("A1 _1%1234/"), text("a/aa/")), [-4])

    def test_places_of_all_kinds_in_their_order(self):
        written = "A1[nB1?;s_2%1234]:Aa1%12 _2 <B4 _1%1234>/A1%2/"
        sets = [[0], [6, 7, 8, 9], [6, 7, 8, 9], [0, 1, 4, 5], [9], [6], [0, 1, 4]]
        for place, numbers in enumerate(sets):
            self.assertEqual(set_at(SHAPES, written, place), numbers)


class AgainstThePlainWay(unittest.TestCase):
    def test_every_mark_of_every_sign(self):
        b = plain.list_of(list_text(SHAPES).replace("/", "\n"))
        marks = [""] + ["%" + "".join(each) for size in range(1, 5) for each in itertools.combinations("1234", size)]
        for name, mirrored, quarters, uncertain in itertools.product(SHAPES, ("", "~"), marks, ("", "?")):
            piece = name + mirrored + quarters + uncertain
            self.assertEqual(set_at(SHAPES, piece + "/"), plain.row_of(b, piece)[0], piece)

    def test_lists_of_shapes_that_differ_little(self):
        chance = random.Random(3)
        for number in range(150):
            shapes = some_shapes(chance)
            b = plain.list_of(list_text(shapes).replace("/", "\n"))
            quarters = "".join(quarter for quarter in "1234" if chance.random() < 0.6)
            piece = chance.choice(list(shapes)) + chance.choice(("", "~")) + ("%" + quarters if quarters else "")
            piece += chance.choice(("", "", "?"))
            self.assertEqual(set_at(shapes, piece + "/"), plain.row_of(b, piece)[0], (piece, shapes))
            gap = f"_{chance.randint(1, 6)}%1234"
            self.assertEqual(set_at(shapes, gap + "/"), plain.row_of(b, gap)[0], (gap, shapes))


def some_shapes(chance):
    """Signs of one or two sizes, full but for a cell or two within."""
    sizes = [(chance.randint(1, 5), chance.randint(1, 5)) for size in range(2)]
    names = chance.sample("A1 A2 A2a A10 Aa1 Aa1b Ab3 B1 B2 Ba1".split(), chance.randint(2, 8))
    shapes = {}
    for name in sorted(names, key=plain.name_order):
        width, height = chance.choice(sizes)
        cells = [["#"] * width for y in range(height)]
        for hole in range(chance.randint(0, 2)):
            x, y = chance.randrange(width), chance.randrange(height)
            cells[y][x] = "."
        rows = ["".join(row) for row in cells]
        columns = ["".join(column) for column in zip(*rows)]
        # A hole that leaves an edge without ink is no hole.
        if any("#" not in edge for edge in (rows[0], rows[-1], columns[0], columns[-1])):
            rows = ["#" * width] * height
        shapes[name] = rows
    return shapes


if __name__ == "__main__":
    unittest.main()
