"""A list of calls that is gone through from its beginning to its end."""


class Tape:
    """The numbers handed in, which are only read, and the place up to which they are taken."""

    def __init__(self, numbers):
        self.numbers = numbers
        self.place = 0

    def has_more(self):
        return self.place < len(self.numbers)

    def take_number(self):
        number = self.numbers[self.place]
        self.place = self.place + 1
        return number

    def take_row(self):
        """The row that stands here behind how many numbers it has."""
        count = self.take_number()
        row = self.numbers[self.place:self.place + count]
        self.place = self.place + count
        return row
