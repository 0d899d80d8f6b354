"""The promises on lists, arrangements and readings told once more, plainly: slow, and for small inputs alone.

Texts are Python's own here, with the byte 10 as a line's end.
"""

import itertools
import re

NAME = r"[A-Z][a-z]?[1-9][0-9]{0,2}[a-z]?"
QUARTERS = r"%(?=[1-4])1?2?3?4?"
SIGN = re.compile(rf"({NAME})(~)?({QUARTERS})?(\?)?")
GAP = re.compile(rf"_([1-9][0-9]*)({QUARTERS})?")
PLACES = ("nw", "n", "ne", "w", "c", "e", "sw", "s", "se")
SHOWN_NAME = re.compile(r"([A-Z])([a-z]?)([0-9]+)([a-z]?)")


# Arrangements: each function answers where what it's called for may end, if it begins at a place of the text.

class Grammar:
    """The grammar of an arrangement's text, row by row, without its limits on how many there are."""

    def __init__(self, written):
        self.written = written
        self.known = {}

    def ends(self, rule, at):
        if (rule, at) not in self.known:
            self.known[rule, at] = getattr(self, rule)(at)
        return self.known[rule, at]

    def mark(self, mark, places):
        return {at + len(mark) for at in places if self.written.startswith(mark, at)}

    def each(self, rule, places):
        return {end for at in places for end in self.ends(rule, at)}

    def several(self, rule, between, at, least):
        found = set()
        ends = self.ends(rule, at)
        count = 1
        while ends:
            if count >= least:
                found |= ends
            ends = self.each(rule, self.mark(between, ends))
            count += 1
        return found

    def bracketed(self, rule, at):
        return self.mark(")", self.each(rule, self.mark("(", {at})))

    def text(self, at):
        found = set()
        ends = self.ends("line", at)
        while ends - found:
            found |= ends
            ends = self.each("line", ends)
        return found

    def line(self, at):
        return self.mark("\n", self.several("item", " ", at, 1))

    def item(self, at):
        ring = set()
        for start in self.mark("<", {at}):
            ring |= self.mark(">", self.several("part", " ", start, 1))
        return self.ends("part", at) | ring | self.mark("...", {at})

    def part(self, at):
        return self.ends("column", at) | self.ends("row", at) | self.ends("pile", at) | self.ends("single", at)

    def column(self, at):
        return self.several("cell", ":", at, 2)

    def cell(self, at):
        return self.ends("row", at) | self.ends("pile", at) | self.ends("single", at)

    def row(self, at):
        return self.several("seat", "*", at, 2)

    def seat(self, at):
        return self.bracketed("column", at) | self.ends("pile", at) | self.ends("single", at)

    def pile(self, at):
        return self.several("sheet", "&", at, 2)

    def sheet(self, at):
        return self.bracketed("column", at) | self.bracketed("row", at) | self.ends("single", at)

    def single(self, at):
        gap = GAP.match(self.written, at)
        if gap is not None:
            return {gap.end()} if int(gap.group(1)) <= 32 else set()
        sign = SIGN.match(self.written, at)
        if sign is None:
            return set()
        found = {sign.end()}
        for start in self.mark("[", {sign.end()}):
            found |= self.mark("]", self.several("nest", ";", start, 1))
        return found

    def nest(self, at):
        starts = {at + len(place) for place in PLACES if self.written.startswith(place, at)}
        return self.each("part", starts)


def is_arrangement(written):
    """Whether the grammar has this text; how many there may be of anything isn't asked."""
    return len(written) in Grammar(written).ends("text", 0)


# Lists of signs.

def name_order(name):
    first, second, number, last = SHOWN_NAME.fullmatch(name).groups()
    return (first, second, int(number), last)


def list_of(written):
    """The signs of a list's text, each (name, sounds, rows); None if it's none's."""
    if re.fullmatch(rf"(sign {NAME}( [a-z]{{1,8}}){{0,8}}\n([#.]{{1,32}}\n){{1,32}}){{1,512}}", written) is None:
        return None
    found = []
    for line in written.split("\n")[:-1]:
        if line.startswith("sign"):
            found.append((line.split(" ")[1], line.split(" ")[2:], []))
        else:
            found[-1][2].append(line)
    for name, sounds, rows in found:
        columns = ["".join(cells) for cells in zip(*rows)]
        if len({len(row) for row in rows}) != 1 or len(set(sounds)) != len(sounds):
            return None
        if any("#" not in edge for edge in (rows[0], rows[-1], columns[0], columns[-1])):
            return None
    names = [name_order(sign[0]) for sign in found]
    if any(names[k] >= names[k + 1] for k in range(len(names) - 1)):
        return None
    return found


# Places.

def seen(rows, mirrored):
    """Each cell's ink, by x and y, as it's seen."""
    return {
        (x, y): cell for y, row in enumerate(rows) for x, cell in enumerate(reversed(row) if mirrored else row)
    }


def quarter_of(x, y, width, height):
    if y < height // 2:
        return "1" if x < width // 2 else "2"
    return "3" if x < width // 2 else "4"


def looks_the_same(rows, others, mirrored, quarters):
    width, height = len(rows[0]), len(rows)
    if (len(others[0]), len(others)) != (width, height):
        return False
    one, other = seen(rows, mirrored), seen(others, mirrored)
    return all(one[x, y] == other[x, y] or quarter_of(x, y, width, height) in quarters for x, y in one)


def sign_set(signs, name, mirrored, quarters, uncertain):
    own = next(sign for sign in signs if sign[0] == name)
    found = []
    for number, sign in enumerate(signs):
        alike = quarters != "" and looks_the_same(own[2], sign[2], mirrored, quarters)
        akin = uncertain and SHOWN_NAME.fullmatch(sign[0]).groups()[:2] == SHOWN_NAME.fullmatch(name).groups()[:2]
        if alike or akin or sign is own:
            found.append(number)
    return found


def gap_set(signs, size):
    return [number for number, (name, sounds, rows) in enumerate(signs) if max(len(rows), len(rows[0])) <= size]


def row_of(signs, written):
    """The row of a right text, its sets and "..." for its breaks; None if the list hasn't one of its signs."""
    found = []
    for piece in re.finditer(rf"\.\.\.|{SIGN.pattern}|{GAP.pattern}", written):
        name, mirrored, quarters, uncertain, size, damaged = piece.groups()
        if piece.group() == "...":
            found.append("...")
        elif name is None:
            if damaged == "%1234":
                found.append(gap_set(signs, int(size)))
        elif all(sign[0] != name for sign in signs):
            return None
        else:
            found.append(sign_set(signs, name, bool(mirrored), quarters or "", bool(uncertain)))
    return found


# Readings.

def choices(signs, numbers):
    """All that can be chosen at a place: what it costs, what's said, the sign's number and the sound's."""
    found = []
    for before, number in enumerate(numbers):
        for sound, letters in enumerate(signs[number][1]):
            found.append((2 * before + sound, letters, number, sound))
        found.append((2 * before + 7, "", number, 8))
    return found


def reading(chosen, ends, words):
    """The cost and the row of a reading; None if it's none."""
    cost = sum(each[0] for each in chosen)
    begun = ""
    row = []
    for (_, letters, sign, sound), end in zip(chosen, ends):
        begun += letters
        row += [sign, sound, 0]
        if end:
            if begun not in words:
                return None
            row[-1] = words.index(begun) + 1
            cost += 3
            begun = ""
    return cost, row


def all_readings(signs, sets, words):
    """The cost and the row of every reading, in the order of readings."""
    found = []
    for chosen in itertools.product(*[choices(signs, numbers) for numbers in sets]):
        for ends in itertools.product((0, 1), repeat=len(sets) - 1):
            answer = reading(chosen, ends + (1,), words)
            if answer is not None:
                order = [(each[2], each[3], end) for each, end in zip(chosen, ends + (1,))]
                found.append((order, answer))
    return [answer for order, answer in sorted(found)]


def told_readings(i, j, b, t, x):
    """Every reading of places i to j, as all_readings tells them; or the refusal's number."""
    signs = list_of(b)
    row = row_of(signs, t)
    at = [k for k, each in enumerate(row) if each != "..."]
    if not i <= j < len(at):
        return -4
    stretch = row[at[i]:at[j] + 1]
    if "..." in stretch:
        return -8
    return all_readings(signs, stretch, x.split("\n")[:-1])


def told_cost(i, j, b, t, x):
    found = told_readings(i, j, b, t, x)
    if isinstance(found, int):
        return [found]
    return [min(cost for cost, row in found)] if found else [-5]


def told_best(i, j, b, t, x):
    found = told_readings(i, j, b, t, x)
    if isinstance(found, int):
        return [found]
    if not found:
        return [-5]
    # They stand in their order, and min takes the first of the least.
    row = min(found, key=lambda each: each[0])[1]
    return [len(row)] + row


def told_said(i, j, b, t, x):
    row = told_best(i, j, b, t, x)
    if row[0] < 0:
        return row
    words = x.split("\n")[:-1]
    said = " ".join(words[end - 1] for end in row[3::3] if end)
    return [len(said)] + list(said.encode())


def told_check(i, j, b, t, x, r):
    found = told_readings(i, j, b, t, x)
    if isinstance(found, int):
        return [found]
    costs = [cost for cost, row in found if row == r]
    return costs if costs else [-5]


def told_ways(i, j, b, t, x):
    found = told_readings(i, j, b, t, x)
    return [found] if isinstance(found, int) else [0, len(found)]
