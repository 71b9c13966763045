"""Reading whole numbers, one behind another, out of a list."""


class Reader:
    """Stands at a place in a list of numbers and goes on as they are taken."""

    def __init__(self, numbers):
        self.numbers = numbers
        self.place = 0

    def at_end(self):
        """Whether all the numbers are taken."""
        return self.place >= len(self.numbers)

    def take(self):
        """Take one number."""
        number = self.numbers[self.place]
        self.place += 1
        return number

    def take_row(self):
        """Take a row that stands behind how many numbers it has."""
        count = self.take()
        row = self.numbers[self.place:self.place + count]
        self.place += count
        return row
