"""The one list of numbers that all calls are handed in with, read in order."""


class Reader:
    """A list of numbers, and the place up to which it is read."""

    def __init__(self, numbers):
        self.numbers = numbers
        self.at = 0

    def has_more(self):
        """Whether there is a number that isn't read yet."""
        return self.at < len(self.numbers)

    def take_number(self):
        """The next number."""
        number = self.numbers[self.at]
        self.at = self.at + 1
        return number

    def take_list(self):
        """The next list, a new one; its length stands ahead of it."""
        length = self.take_number()
        start = self.at
        self.at = start + length
        return self.numbers[start:self.at]
