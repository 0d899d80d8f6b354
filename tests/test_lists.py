"""What is a list's text: told by cost, whose refusal -3 is for a text that's none."""

import itertools
import random
import unittest

from signsounds.sounds import cost
from tests import plain
from tests.lexicons import LETTERS, text

TEXT = text("A1/")
LEXICON = text("a/")


def is_right(written):
    return cost(0, 0, text(written), TEXT, LEXICON) != [-3]


def shape(*rows):
    return "".join(row + "/" for row in rows)


def signs_named(names):
    return "".join(f"sign {name}/#/" for name in names)


class ListCase(unittest.TestCase):
    def right(self, *texts):
        for written in texts:
            self.assertTrue(is_right(written), written[:200])

    def wrong(self, *texts):
        for written in texts:
            self.assertFalse(is_right(written), written[:200])


class Forms(ListCase):
    def test_ordinary_lists(self):
        self.right("sign A1/#/", "sign A1 a/#/", "sign A1 a ba/##./#.#/sign A2/#/", "sign A1/##/##/sign B1 b/#/#/")

    def test_the_signs_line(self):
        self.wrong("A1/#/", "signA1/#/", "sign  A1/#/", "Sign A1/#/", "sign/#/", "sign /#/", "sig A1/#/", "signs A1/#/")
        self.wrong(" sign A1/#/", "sign A1 /#/", "sign A1#/", "sign A1/ #/", "sign A1//#/", "/sign A1/#/")
        self.wrong("sign A1/#//")
        self.wrong("sign A1?/#/", "sign A1~/#/", "sign A1%1/#/", "sign _1/#/", "sign a1/#/", "sign A0/#/")
        self.wrong("sign A01/#/")
        self.wrong("sign A1000/#/", "sign A/#/", "sign Aab1/#/", "sign A1ab/#/", "sign A1 A2/#/", "sign A1:A2/#/")
        self.wrong("s", "si")

    def test_every_name(self):
        self.right("sign A1/#/", "sign Z999/#/", "sign Aa1/#/", "sign Az999z/#/", "sign D4b/#/", "sign A1z/#/")

    def test_empty_and_unended(self):
        self.wrong("", "/", "#/", "sign A1", "sign A1/", "sign A1/#", "sign A1/#/sign A2", "sign A1/#/sign A2/")
        self.wrong("sign A1/#/sign A2/#", "sign A1/sign A2/#/", "sign A1/#/sign", "sign A1/#/s")

    def test_bytes_that_no_list_has(self):
        for byte in range(256):
            if bytes([byte]) not in b" \n#." and not bytes([byte]).isalnum():
                for given in ([byte], text("sign A1/#/") + [byte], text("sign A1/#") + [byte, 10],
                              text("sign A1") + [byte] + text("/#/"), text("sign A1 a") + [byte] + text("/#/")):
                    self.assertEqual(cost(0, 0, given, TEXT, LEXICON), [-3], given)

    def test_rows_have_two_marks_alone(self):
        self.wrong("sign A1/x/", "sign A1/#x#/", "sign A1/# #/", "sign A1/#0#/", "sign A1/##/#x/")


class Sounds(ListCase):
    def test_how_many_letters(self):
        self.right("sign A1 a/#/", "sign A1 abcdefgh/#/", "sign A1 zzzzzzzz z/#/")
        self.wrong("sign A1 abcdefghi/#/", "sign A1 a abcdefghi/#/", "sign A1 " + "a" * 60000 + "/#/")

    def test_no_letters(self):
        self.wrong("sign A1 /#/", "sign A1 a /#/", "sign A1  a/#/", "sign A1 a  b/#/", "sign A1 A/#/", "sign A1 a1/#/")
        self.wrong("sign A1 a,b/#/", "sign A1 a-/#/", "sign A1 1/#/", "sign A1 aB/#/")

    def test_how_many_sounds(self):
        for count in range(9):
            self.right("sign A1" + "".join(" " + letter for letter in LETTERS[:count]) + "/#/")
        for count in range(9, 27):
            self.wrong("sign A1" + "".join(" " + letter for letter in LETTERS[:count]) + "/#/")
        self.wrong("sign A1 " + " ".join(a + b for a in LETTERS for b in LETTERS) + "/#/")

    def test_no_two_the_same(self):
        self.wrong("sign A1 a a/#/", "sign A1 a b a/#/", "sign A1 ab c d e f g h ab/#/")
        self.right("sign A1 a aa/#/", "sign A1 ab ba/#/", "sign A1 a/#/sign A2 a/#/", "sign A1 b a/#/")


class Shapes(ListCase):
    def test_32_rows(self):
        for count in (1, 2, 31, 32):
            self.right("sign A1/" + "#/" * count, "sign A1/" + "#/" * count + "sign A2/#/")
        for count in (33, 34, 100, 20000):
            self.wrong("sign A1/" + "#/" * count, "sign A1/" + "#/" * count + "sign A2/#/")

    def test_32_cells_of_a_row(self):
        for width in (1, 2, 31, 32):
            self.right("sign A1/" + "#" * width + "/", "sign A1/" + ("#" * width + "/") * 32)
        for width in (33, 34, 100, 60000):
            self.wrong("sign A1/" + "#" * width + "/")

    def test_rows_of_one_length(self):
        self.wrong("sign A1/##/#/", "sign A1/#/##/", "sign A1/###/###/##/", "sign A1/##/##/###/", "sign A1/#/#.#/#/")

    def test_ink_at_every_edge(self):
        self.right("sign A1/" + shape("#.", ".#"), "sign A1/" + shape(".#", "#."))
        self.right("sign A1/" + shape(".#.", "#.#", ".#."))
        self.right("sign A1/" + shape("#...", "....", "...#"), "sign A1/" + shape(".#", "..", "#."))
        self.wrong("sign A1/./", "sign A1/../", "sign A1/" + shape("..", "##"), "sign A1/" + shape("##", ".."))
        self.wrong("sign A1/" + shape(".#", ".#"), "sign A1/" + shape("#.", "#."), "sign A1/.#/", "sign A1/#./")
        self.wrong("sign A1/" + shape("...", "###", "###"), "sign A1/" + shape("###", "###", "..."))
        self.wrong("sign A1/" + shape("##.", "##.", "##."), "sign A1/" + shape(".##", ".##", ".##"))

    def test_rows_and_columns_without_ink_within(self):
        self.right("sign A1/" + shape("##", "..", "##"), "sign A1/" + shape("#.#", "#.#"))
        self.right("sign A1/" + shape("#.#", "...", "#.#"))

    def test_every_sign_has_its_own_shape(self):
        self.right("sign A1/#/sign A2/##/##/sign A3/#/#/#/")
        self.wrong("sign A1/#/sign A2/##/#/", "sign A1/#/sign A2/./", "sign A1/#/sign A2/")
        self.wrong("sign A1/#/sign A2/sign A3/#/")

    def test_all_small_shapes(self):
        for width, height in itertools.product(range(1, 4), range(1, 4)):
            for cells in itertools.product("#.", repeat=width * height):
                rows = ["".join(cells[k:k + width]) for k in range(0, len(cells), width)]
                written = "sign A1/" + shape(*rows)
                self.assertEqual(is_right(written), plain.list_of(written.replace("/", "\n")) is not None, rows)


class Order(ListCase):
    RISING = "A1 A1a A1z A2 A9 A10 A99a A100 A999z Aa1 Aa2b Ab1 Az999 B1 Ba1 Z1".split()

    def test_rising_names(self):
        self.right(signs_named(self.RISING))
        for one, two in itertools.combinations(self.RISING, 2):
            self.right(signs_named([one, two]))
            self.wrong(signs_named([two, one]))

    def test_a_name_twice(self):
        for name in self.RISING:
            self.wrong(signs_named([name, name]))

    def test_only_the_name_before_counts(self):
        self.wrong(signs_named(["A1", "A3", "A2"]), signs_named(["A1", "A2", "A1"]))
        self.wrong(signs_named(["A1", "B1", "A2", "B2"]))

    def test_512_signs(self):
        for count in (1, 511, 512):
            self.right(signs_named([f"A{number}" for number in range(1, count + 1)]))
        for count in (513, 600, 999):
            self.wrong(signs_named([f"A{number}" for number in range(1, count + 1)]))

    def test_many_large_signs(self):
        square = ("#" * 32 + "/") * 32
        written = "".join(f"sign A{number} {'abcdefgh'}/{square}" for number in range(1, 91))
        self.assertLessEqual(len(written), 100000)
        self.right(written)
        self.wrong(written + "/")


class AgainstThePlainWay(ListCase):
    def test_lists_changed_a_little(self):
        chance = random.Random(11)
        for number in range(3000):
            names = chance.sample(Order.RISING, chance.randint(1, 3))
            if chance.random() < 0.9:
                names = sorted(names, key=plain.name_order)
            written = ""
            for name in names:
                sounds = "".join(chance.choices((" a", " ba", " abcdefgh"), k=chance.randint(0, 2)))
                width, height = chance.randint(1, 3), chance.randint(1, 3)
                rows = ["".join(chance.choice("##.") for x in range(width)) for y in range(height)]
                written += f"sign {name}{sounds}/{shape(*rows)}"
            for change in range(3):
                self.assertEqual(is_right(written), plain.list_of(written.replace("/", "\n")) is not None, written)
                at = chance.randrange(len(written))
                put = chance.choice("A1ab #./s0")
                written = written[:at] + chance.choice(("", put, put + written[at])) + written[at + 1:]


if __name__ == "__main__":
    unittest.main()
