"""Takes numbers and rows from a list of calls, from its front to its end."""


class Reader:
    """Goes through the calls by a position of its own, so that they stay as they are."""

    def __init__(self, calls):
        self.calls = calls
        self.position = 0

    def is_done(self):
        """Whether all numbers are taken."""
        return self.position >= len(self.calls)

    def number(self):
        """Takes one number."""
        taken = self.calls[self.position]
        self.position += 1
        return taken

    def row(self):
        """Takes a row, which has its length ahead of it."""
        length = self.number()
        start = self.position
        self.position = start + length
        return self.calls[start:start + length]
