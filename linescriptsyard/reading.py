"""Reading calls, number by number, from the one list in which they are handed in."""


class CallReader:
    """The numbers of a list of calls, and how many of them are read."""

    def __init__(self, numbers):
        self.numbers = numbers
        self.place = 0

    def has_more(self):
        """Whether there are numbers that are not read yet."""
        return self.place < len(self.numbers)

    def read_number(self):
        """The number that stands next."""
        number = self.numbers[self.place]
        self.place += 1
        return number

    def read_row(self):
        """The numbers of the row that stands next, behind how many they are."""
        size = self.read_number()
        row = self.numbers[self.place:self.place + size]
        self.place += size
        return row
