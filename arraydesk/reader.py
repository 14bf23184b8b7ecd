"""A way through a list of numbers, one by one: through the list of calls, or through a text's bytes."""


class Reader:
    """Keeps how far the list is read; the list itself is only looked at."""

    def __init__(self, numbers):
        self.numbers = numbers
        self.reached = 0

    def is_done(self):
        return self.reached >= len(self.numbers)

    def upcoming(self):
        """The number that comes next, or None at the end."""
        if self.is_done():
            return None
        return self.numbers[self.reached]

    def passes(self, number):
        """Goes past the next number if it is this one, and tells whether."""
        if self.upcoming() != number:
            return False
        self.reached = self.reached + 1
        return True

    def read_whole(self):
        number = self.numbers[self.reached]
        self.reached = self.reached + 1
        return number

    def read_row(self):
        size = self.read_whole()
        start = self.reached
        self.reached = start + size
        return self.numbers[start:start + size]


def read_wholes(reader, size):
    wholes = []
    for turn in range(size):
        wholes.append(reader.read_whole())
    return wholes


def read_rows(reader, size):
    rows = []
    for turn in range(size):
        rows.append(reader.read_row())
    return rows
