"""A cursor goes through a text from its first byte to its last."""

NO_BYTE = -1


class Cursor:
    """A text, and how many of its bytes are read."""

    def __init__(self, text):
        self.text = text
        self.at = 0

    def byte(self):
        """The byte that comes; NO_BYTE behind the last one."""
        if self.at < len(self.text):
            return self.text[self.at]
        return NO_BYTE

    def step(self):
        self.at = self.at + 1

    def took(self, wanted):
        """Whether the byte that's wanted comes; if it does, it's read."""
        if self.byte() != wanted:
            return False
        self.step()
        return True

    def took_all(self, wanted):
        """Whether the bytes that are wanted come, one behind another; those that do are read."""
        for each in wanted:
            if not self.took(each):
                return False
        return True
