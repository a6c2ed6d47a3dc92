"""Going through a list of numbers from its beginning to its end."""

from freecharge.refusals import Unfit


class Reader:
    """A place in a list of numbers; the list itself is only read."""

    def __init__(self, numbers):
        self.numbers = numbers
        self.place = 0

    def at_end(self):
        return self.place >= len(self.numbers)

    def take(self):
        if self.at_end():
            raise Unfit()
        number = self.numbers[self.place]
        self.place += 1
        return number

    def take_row(self):
        """The row whose length stands before it, as a list of its own."""
        length = self.take()
        start = self.place
        self.place = start + length
        return self.numbers[start:self.place]
