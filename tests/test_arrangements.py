"""What is an arrangement's text, and which places it has: told by cost, whose refusal -6 is for a text that's none."""

import itertools
import random
import unittest

from signsounds.sounds import cost
from tests import plain
from tests.lexicons import text

NAMES = ["A1", "A2", "A3", "B1", "Ba1", "Ba1c"]
LIST = text("".join(f"sign {name} {sound}/#/" for name, sound in zip(NAMES, "abcdef")))
LEXICON = text("a/b/c/d/e/f/")


def is_right(written):
    return cost(0, 0, LIST, text(written), LEXICON) != [-6]


def places(written):
    """What the places of a text of certain signs say, without breaks, as far as no break is between."""
    found = ""
    while cost(len(found), len(found), LIST, text(written), LEXICON) != [-4]:
        for letter in "abcdef":
            if cost(len(found), len(found), LIST, text(written), text(letter + "/")) == [3]:
                found += letter
                break
        else:
            raise AssertionError(written)
    return found


class ArrangementCase(unittest.TestCase):
    def right(self, *texts):
        for written in texts:
            self.assertTrue(is_right(written), written[:200])

    def wrong(self, *texts):
        for written in texts:
            self.assertFalse(is_right(written), written[:200])


class Forms(ArrangementCase):
    def test_signs(self):
        self.right("A1/", "A9/", "Z1/", "A10/", "A99/", "A100/", "A999/", "Aa1/", "Az999z/", "A1a/", "D4b/", "Aa15/")

    def test_no_names(self):
        self.wrong("A/", "a1/", "1/", "A0/", "A01/", "A001/", "A1000/", "A9999/", "A1ab/", "Aab1/", "AA1/", "A1A/")
        self.wrong("A1 1/", "A-1/", "A1.5/", "A1b2/", "Aa/", "Aa0/", "aA1/", "[1/", "@1/", "A1_/")
        self.wrong("A" + "1" * 60000 + "/", "A" + "0" * 60000 + "1/")

    def test_marks(self):
        self.right("A1~/", "A1%1/", "A1?/", "A1~%1/", "A1~?/", "A1%1?/", "A1~%1234?/", "A1a~%14?/")
        self.wrong("A1~~/", "A1??/", "A1%1%2/", "A1?~/", "A1?%1/", "A1%1~/", "~A1/", "?A1/", "%1A1/", "~/", "?/", "%1/")

    def test_quarters(self):
        for size in range(1, 5):
            for quarters in itertools.combinations("1234", size):
                self.right("A1%" + "".join(quarters) + "/", "_1%" + "".join(quarters) + "/")
        self.wrong("A1%/", "A1%?/", "_1%/", "A1%0/", "A1%5/", "_1%05/")
        for quarters in itertools.chain.from_iterable(itertools.product("1234", repeat=size) for size in (2, 3, 5)):
            if list(quarters) != sorted(set(quarters)):
                self.wrong("A1%" + "".join(quarters) + "/", "_1%" + "".join(quarters) + "/")

    def test_gaps(self):
        for size in range(1, 33):
            self.right(f"_{size}/", f"_{size}%1234/", f"_{size}%2/")
        self.wrong("_/", "_0/", "_01/", "_032/", "_33/", "_40/", "_99/", "_100/", "_320/", "__1/", "_a/", "_A1/")
        self.wrong("_1~/", "_1?/", "_1%1?/", "_1[nA1]/", "_1%1234[nA1]/", "_%1/", "_" + "1" * 60000 + "/")

    def test_columns_rows_and_piles(self):
        for tie in ":*&":
            self.right(f"A1{tie}A2/", f"A1{tie}A2{tie}A3/", f"_1{tie}A2/", f"A1~%1?{tie}_2%1/")
            self.wrong(f"{tie}/", f"A1{tie}/", f"{tie}A1/", f"A1{tie}{tie}A2/", f"A1{tie} A2/", f"A1 {tie}A2/")
            self.wrong(f"A1{tie}/A2/")

    def test_ties_of_several_kinds(self):
        for one, two, three in itertools.product(":*&", repeat=3):
            self.right(f"A1{one}A2{two}A3/", f"A1{one}A2{two}A3{three}B1/")

    def test_a_column_in_parentheses(self):
        self.right("(A1:A2)*A3/", "A3*(A1:A2)/", "(A1:A2)&A3/", "A3&(A1:A2)/", "(A1:A2)*(A2:A3)/", "(A1:A2)&(A2:A3)/")
        self.right("A1*(A1:A2:A3)*A3/", "A1:A2*(A1:A2)/", "(A1:A2)*A1:A2/", "A1:(A1:A2)&A2/", "(A1:A2)&A1:A2/")
        self.right("(A1*A2:A3)*A1/", "(A1&A2:A3)*A1/", "((A1:A2)*A3:A3)*A1/", "A1&(A1:A2)*A2/")
        self.wrong("(A1:A2)/", "(A1:A2):A3/", "A3:(A1:A2)/", "A1*A2:(A1:A2)/", "(A1:A2):A1*A2/", "(A1:A2):(A1:A2)/")
        self.wrong("((A1:A2))*A3/", "((A1:A2))&A3/", "A1 (A1:A2)/", "<(A1:A2)>/", "A1[n(A1:A2)]/")

    def test_a_row_in_parentheses(self):
        self.right("(A1*A2)&A3/", "A3&(A1*A2)/", "(A1*A2)&(A1*A2)/", "(A1*A2)&(A1:A2)/", "A1*(A1*A2)&A2/")
        self.right("A1:(A1*A2)&A2/", "(A1*A2)&A1:A2/", "(A1*A2)&A1*A2/", "((A1:A2)*A3)&A1/", "(A1*A2)&A1&A2/")
        self.wrong("(A1*A2)/", "(A1*A2)*A3/", "A3*(A1*A2)/", "(A1*A2):A3/", "A3:(A1*A2)/", "A1&A2*(A1*A2)/")
        self.wrong("(A1*A2)*A1&A2/", "((A1*A2)):A1/", "(A1*A2) A1/", "<(A1*A2)>/")

    def test_nothing_else_in_parentheses(self):
        for inner in ("A1", "_1", "A1&A2", "A1[nA2]", "(A1:A2)&A3", "(A1)", "", "A1 A2", "..."):
            self.wrong(f"({inner})/")
            for tie in ":*&":
                self.wrong(f"({inner}){tie}A1/", f"A1{tie}({inner})/", f"A1{tie}({inner}){tie}A1/")

    def test_parentheses_that_do_not_fit(self):
        self.wrong("(A1:A2*A3/", "A1:A2)*A3/", "((A1:A2)*A3/", "(A1:A2))*A3/", ")A1:A2(*A3/", "(A1:A2]*A3/", "()/")
        self.wrong("(/", ")/")
        self.wrong("(A1:A2)A3/", "A3(A1:A2)/", "(A1:A2)*/", "(A1:)*A2/", "(:A1)*A2/", "(A1:A2)?*A3/")
        self.wrong("(A1:A2)[nA1]*A3/")

    def test_nests(self):
        for place in plain.PLACES:
            self.right(f"A1[{place}A2]/", f"A1[{place}_2%1]/", f"A1[{place}A2:A3]/", f"A1[{place}(A1:A2)*A3]/")
        self.right("A1[nA2;sA3]/", "A1[nA2;nA3]/", "A1[nA2:A3;s(A1*A2)&A3;cA1*A2]/", "A1~%1?[nA2~%1?]/")
        self.right("A1[nA2]:A3[sA1]/")
        self.right("A1[nA2[sA3[eA1]]]/", "A1[nA2[sA3];wA1[cA2;eA3]]/", "(A1[nA2]:A3)*A1[sA2]/", "A1[nA1a]/")
        self.right("A1[neA1e]/")
        self.wrong("A1[]/", "A1[n]/", "A1[A2]/", "A1[nA2/", "A1nA2]/", "A1[nA2]]/", "A1[[nA2]]/", "A1[nA2][sA3]/")
        self.wrong("A1[nA2;]/")
        self.wrong("A1[;nA2]/", "A1[nA2;;sA3]/", "A1[nA2 sA3]/", "A1[nA2,sA3]/", "A1[nA2;A3]/", "A1[nA2)/")
        self.wrong("(A1[nA2)]*A3/")
        self.wrong("A1[n(A1:A2)]/", "A1[n(A2)]/", "A1[nA2]~/", "A1[nA2]?/", "A1[nA2]%1/", "A1[n...]/", "A1[n<A2>]/")
        self.wrong("[nA2]/")
        self.wrong("(A1:A2)[nA3]/", "A1[nA2]A3/", "A1;nA2/", "(A1:A2;nA3)*A1/", "A1[nA2;sA3/", "A1[nA2:]/")

    def test_no_places_of_nests(self):
        for place in ("a", "b", "nn", "en", "wn", "ns", "ws", "cn", "nc", "nwe", "N", "nW", "x", "ew", "ww", "es", "1"):
            self.wrong(f"A1[{place}A2]/", f"A1[nA2;{place}A2]/")

    def test_rings(self):
        self.right("<A1>/", "<A1 A2>/", "<A1:A2 _1 A1[nA2] (A1:A2)*A3>/", "A1 <A2> A3/", "<A1> <A2>/", "<A1>/<A2>/")
        self.wrong("<>/", "< A1>/", "<A1 >/", "<A1  A2>/", "<A1/", "A1>/", "<A1/>/", "<<A1>>/", "<A1 <A2>>/", "<...>/")
        self.wrong("<A1 ...>/", "<A1>A2/", "A1<A2>/", "<A1>:A2/", "A1:<A2>/", "(<A1>:A2)*A3/", "<A1>>/", "<A1>?/")
        self.wrong("<A1)/")

    def test_lost_signs(self):
        self.right(".../", "... .../", "A1 ... A2/", "... <A1> .../", ".../A1/.../")
        self.wrong("./", "../", "..../", "....../", "...A1/", "A1.../", "...:A1/", "A1:.../", "(...:A1)*A2/")
        self.wrong(". . ./", "...?/")

    def test_lines(self):
        self.right("A1/A2/", "A1 A2/A3/", "A1/A1/A1/")
        self.wrong("", "/", "A1", "A1/A2", "A1//", "/A1/", "A1//A2/", " A1/", "A1 /", "A1  A2/", "A1 A2", " /")
        self.wrong("A1/ A2/", "A1/ ")

    def test_bytes_that_no_text_has(self):
        for byte in range(256):
            if bytes([byte]) not in b" \n~%?[]:*&()<>_.;0123456789" and not bytes([byte]).isalpha():
                for given in ([byte], [byte] + text("A1/"), text("A1") + [byte, 10], text("A1/") + [byte]):
                    self.assertEqual(cost(0, 0, LIST, given, LEXICON), [-6], given)


class Limits(ArrangementCase):
    def test_64_pieces_of_a_block(self):
        for tie in ":*&":
            self.right(tie.join(["A1"] * 64) + "/", tie.join(["_1", "A1"] * 32) + "/")
            self.wrong(tie.join(["A1"] * 65) + "/", tie.join(["_1"] * 65) + "/")
            self.wrong(tie.join(["_1", "A1"] * 32 + ["_1"]) + "/")
            self.wrong(tie.join(["A1"] * 66) + "/", tie.join(["A1"] * 20000) + "/")
            self.wrong(tie.join(["A1"] * 64) + tie + "/", tie.join(["A1"] * 64) + tie + " A1/")

    def test_64_pieces_in_nests_and_parentheses(self):
        self.right("A1[" + ";".join(["nA1"] * 63) + "]/", "A1[n" * 63 + "A1" + "]" * 63 + "/")
        self.wrong("A1[" + ";".join(["nA1"] * 64) + "]/", "A1[n" * 64 + "A1" + "]" * 64 + "/")
        self.wrong("A1[" + ";".join(["n_1"] * 64) + "]/")
        self.right("(A1:A1)*" * 31 + "A1*A1/", "A1[nA1:A1]*" * 21 + "A1/", "A1[nA1]:" * 31 + "A1:_1/")
        self.wrong("(A1:A1)*" * 31 + "A1*A1*A1/", "A1[nA1:A1]*" * 21 + "A1*A1/", "A1[nA1]:" * 31 + "A1:_1:A1/")

    def test_64_pieces_and_no_end(self):
        self.wrong("A1[n" * 64 + "/", "A1[n" * 64 + " A1/", "<" + "A1[n" * 64 + ">/", "(A1:" * 64 + "/")
        self.wrong("(A1:" * 63 + "A1/")

    def test_parentheses_as_deep_as_can_be(self):
        deep = "A1:A1"
        for level in range(20):
            deep = f"(({deep})*A1)&A1:A1"
        self.assertEqual(deep.count("A1"), 62)
        self.right(f"{deep}/", f"({deep})*A1/", f"({deep})*A1*A1/", f"({deep})&A1*A1/", f"{deep}:A1:A1/")
        self.wrong(f"({deep})/", f"({deep})*A1*A1*A1/", f"({deep})&A1*A1*A1/", f"{deep}:A1:A1:A1/", f"({deep})*A1*A1)/")

    def test_opened_without_an_end(self):
        for opened in ("(", "((A1:", "A1[n", "A1&(", "(A1*", "<", "A1:"):
            self.wrong(opened * 9000, opened * 9000 + "/", opened * 9000 + "A1/")

    def test_a_block_begins_anew_in_the_next(self):
        full = ":".join(["A1"] * 64)
        self.right(f"{full} {full}/", f"{full}/{full}/", f"<{full} {full}>/", "<" + " ".join([full] * 16) + ">/")
        self.wrong(f"{full} {full}:A1/", f"<{full} {full}:A1>/")

    def test_64_items_of_a_line(self):
        for item in ("A1", "...", "<A1>", "_1", "<A1 A2>", "A1:A2"):
            self.right(" ".join([item] * 64) + "/", " ".join([item] * 63) + "/", (" ".join([item] * 64) + "/") * 2)
            self.wrong(" ".join([item] * 65) + "/", " ".join([item] * 66) + "/", "A1/" + " ".join([item] * 65) + "/")
            self.wrong(" ".join([item] * 64) + " /")

    def test_16_blocks_of_a_ring(self):
        for block in ("A1", "_1", "A1:A2"):
            self.right("<" + " ".join([block] * 16) + ">/", " ".join(["<" + " ".join([block] * 16) + ">"] * 64) + "/")
            self.wrong("<" + " ".join([block] * 17) + ">/", "<" + " ".join([block] * 16) + " >/")

    def test_512_lines(self):
        for line in ("A1/", ".../", "<A1>/", "_1/"):
            self.right(line * 511, line * 512)
            self.wrong(line * 513, line * 512 + "/", line * 1000)
        self.right(("A1 " * 63 + "A1/") * 341)


class Places(unittest.TestCase):
    def test_signs_in_the_order_of_their_names(self):
        self.assertEqual(places("A1 A2 A3 B1 Ba1 Ba1c/"), "abcdef")
        self.assertEqual(places("A3 A1/A2/"), "cab")
        self.assertEqual(places("A3:A1*A2&B1/"), "cabd")
        self.assertEqual(places("(A3:A1)*A2 (B1*A3)&A1/"), "cabdca")
        self.assertEqual(places("A2[nA3;sA1[eB1]]:A3/"), "bcadc")
        self.assertEqual(places("<A2 A3:A1> A1/<B1>/"), "bcaad")

    def test_marks_change_no_order(self):
        self.assertEqual(places("A2~ A3~/A1~/"), "bca")

    def test_gaps_that_are_no_places(self):
        self.assertEqual(places("_1/"), "")
        self.assertEqual(places("_1 A2 _32 A3:_2 _5%123 _5%1 _5%234 _5%134 _5%124/"), "bc")
        self.assertEqual(places("A1[n_1;sA2] <_2 A3>/"), "abc")

    def test_lost_signs_are_no_places(self):
        self.assertEqual(places(".../"), "")
        self.assertEqual(places("... A2 ... ... A3 .../.../A1/"), "bca")

    def test_as_many_letters_and_digits_as_can_be_are_a_names(self):
        self.assertEqual(places("Ba1 Ba1c/"), "ef")
        self.assertEqual(cost(0, 0, LIST, text("A1c/"), LEXICON), [-9])
        self.assertEqual(cost(0, 0, LIST, text("A11/"), LEXICON), [-9])


class AgainstTheGrammar(unittest.TestCase):
    def compare(self, written):
        self.assertEqual(is_right(written.replace("\n", "/")), plain.is_arrangement(written), written)

    def test_all_rows_of_few_marks(self):
        for size in range(7):
            for row in itertools.product(("A1", ":", "*", "&", "(", ")"), repeat=size):
                self.compare("".join(row) + "\n")
        for size in range(6):
            for row in itertools.product(("A1", ":", "*", "[n", ";n", "]", "_1"), repeat=size):
                self.compare("".join(row) + "\n")
            for row in itertools.product(("A1", " ", "<", ">", "...", "\n", ":"), repeat=size):
                self.compare("".join(row) + "\n")
        for size in range(6):
            for row in itertools.product("A1a~%?_", repeat=size):
                self.compare("A1" + "".join(row) + "\n")

    def test_texts_changed_a_little(self):
        chance = random.Random(5)
        for number in range(3000):
            written = some_text(chance)
            self.assertTrue(plain.is_arrangement(written), written)
            self.compare(written)
            for change in range(chance.randint(1, 3)):
                at = chance.randrange(len(written))
                put = chance.choice("A1a23~%?[]();:*&<>_. \nnsw0")
                written = written[:at] + chance.choice(("", put, put + written[at])) + written[at + 1:]
                self.compare(written)


def some_part(chance, depth, outer):
    """A right part that may stand where the outer tie ties it: 0 nothing, 1 a column, 2 a row, 3 a pile."""
    kind = chance.choice((0, 1, 2, 3)) if depth else 0
    if kind == 0:
        return some_single(chance, depth)
    if kind == outer:
        return some_single(chance, depth)
    if kind < outer:
        return "(" + some_tied(chance, depth, kind) + ")"
    return some_tied(chance, depth, kind)


def some_tied(chance, depth, kind):
    return " :*&"[kind].join(some_part(chance, depth - 1, kind) for part in range(chance.randint(2, 3)))


def some_single(chance, depth):
    quarters = chance.choice(("", "", "%1", "%24", "%1234"))
    if chance.random() < 0.2:
        return f"_{chance.randint(1, 32)}{quarters}"
    single = chance.choice(NAMES) + chance.choice(("", "", "~")) + quarters + chance.choice(("", "", "?"))
    if depth and chance.random() < 0.3:
        nests = [chance.choice(plain.PLACES) + some_part(chance, depth - 1, 0) for nest in range(chance.randint(1, 2))]
        single += "[" + ";".join(nests) + "]"
    return single


def some_item(chance):
    kind = chance.random()
    if kind < 0.1:
        return "..."
    if kind < 0.2:
        return "<" + " ".join(some_part(chance, 2, 0) for block in range(chance.randint(1, 3))) + ">"
    return some_part(chance, 3, 0)


def some_text(chance):
    lines = []
    for line in range(chance.randint(1, 2)):
        lines.append(" ".join(some_item(chance) for item in range(chance.randint(1, 3))) + "\n")
    return "".join(lines)


if __name__ == "__main__":
    unittest.main()
