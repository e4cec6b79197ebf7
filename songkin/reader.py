"""How numbers are read from a list, one behind another."""


class Reader:
    """A list of numbers, and how far it is read; the list itself stays as it is."""

    def __init__(self, numbers):
        self.numbers = numbers
        self.place = 0

    def is_done(self):
        """Tell whether all numbers are read."""
        return self.place >= len(self.numbers)

    def number(self):
        """Give the next number."""
        self.place += 1
        return self.numbers[self.place - 1]

    def several(self, many):
        """Give so many next numbers as a list."""
        self.place += many
        return self.numbers[self.place - many:self.place]

    def row(self):
        """Give the next row, which has ahead of it how many numbers it has."""
        return self.several(self.number())
