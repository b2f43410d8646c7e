"""Reading a list of whole numbers from its front to its end."""


class Reader:
    """A place in a list of whole numbers; the list itself stays as it is."""

    def __init__(self, line):
        self.line = line
        self.place = 0

    def has_more(self):
        return self.place < len(self.line)

    def number(self):
        """The next number."""
        found = self.line[self.place]
        self.place += 1
        return found

    def row(self):
        """The next row, as a list of its own: how many numbers it has stands before it."""
        size = self.number()
        start = self.place
        self.place += size
        return self.line[start:self.place]
