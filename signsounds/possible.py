"""What the places of a text's row may have been: signs by their numbers in the list."""

from signsounds.arrangement import QUARTERS

HIDDEN = 0


def look_of(rows, mirrored, damaged):
    """What of a shape is still to be seen: the cells of damaged quarters are all the same."""
    middle = len(rows[0]) // 2
    found = []
    for y, row in enumerate(rows):
        seen = list(reversed(row)) if mirrored else row
        left = QUARTERS[0] if y < len(rows) // 2 else QUARTERS[2]
        # The right quarter of the same half is the one behind the left quarter.
        found.append((half_seen(seen[:middle], left in damaged), half_seen(seen[middle:], left + 1 in damaged)))
    return tuple(found)


def half_seen(cells, hidden):
    return tuple([HIDDEN] * len(cells) if hidden else cells)


def signs_by_look(signs, mirrored, damaged):
    """For each look that signs of the list have, their numbers."""
    found = {}
    for number, sign in enumerate(signs):
        found.setdefault(look_of(sign.rows, mirrored, damaged), []).append(number)
    return found


def class_of(name):
    """What names of one class have in common: the capital letter and the small one behind it."""
    return name[:2]


class Possible:
    """A list's signs, and what's been found of them: so that the list is gone through once for each kind of place."""

    def __init__(self, signs):
        self.signs = signs
        self.numbers = dict([(sign.name, number) for number, sign in enumerate(signs)])
        self.looks = {}
        self.known = {}

    def knows(self, place):
        """Whether the list has the place's sign; a gap needs none."""
        return place.name is None or place.name in self.numbers

    def alike(self, place):
        """The signs that look the same as the damaged sign, where it isn't damaged."""
        marks = (place.mirrored, place.damaged)
        if marks not in self.looks:
            self.looks[marks] = signs_by_look(self.signs, place.mirrored, place.damaged)
        own = self.signs[self.numbers[place.name]]
        return self.looks[marks][look_of(own.rows, place.mirrored, place.damaged)]

    def fitting(self, size):
        """The signs that fit into a gap."""
        return [
            number for number, sign in enumerate(self.signs) if len(sign.rows) <= size and len(sign.rows[0]) <= size
        ]

    def akin(self, name):
        """The signs of the name's class."""
        return [number for number, sign in enumerate(self.signs) if class_of(sign.name) == class_of(name)]

    def found_anew(self, place):
        if place.name is None:
            return self.fitting(place.size)
        found = [self.numbers[place.name]]
        if len(place.damaged) > 0:
            found = found + self.alike(place)
        if place.uncertain:
            found = found + self.akin(place.name)
        return sorted(set(found))

    def signs_at(self, place):
        """The signs that the place may have been, their numbers rising, as a tuple."""
        kind = (place.name, place.size, place.mirrored, place.damaged, place.uncertain)
        if kind not in self.known:
            self.known[kind] = tuple(self.found_anew(place))
        return self.known[kind]
