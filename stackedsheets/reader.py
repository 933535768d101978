"""Reading calls from one list of numbers."""

# By the number of a call: how many single numbers, and how many lists it has.
# Those of all calls stand here, since each is answered before a start.
SINGLES = (1, 1, 1, 2, 2, 1, 1, 0, 0, 0, 0, 1, 2, 1, 0, 1, 1, 1, 0, 0)
LISTS = (0, 0, 0, 0, 0, 0, 0, 1, 2, 2, 1, 0, 0, 0, 0, 0, 0, 0, 1, 0)


class Reader:
    """A place in a list of calls."""

    def __init__(self, numbers):
        self.numbers = numbers
        self.place = 0

    def has_more(self):
        """Tell whether there is one call more."""
        return self.place < len(self.numbers)

    def read_number(self):
        """Read one number."""
        number = self.numbers[self.place]
        self.place += 1
        return number

    def read_list(self):
        """Read a list, before which stands how long it is."""
        length = self.read_number()
        first = self.place
        self.place += length
        return self.numbers[first:self.place]

    def read_given(self, number):
        """Read what the call of this number is given: its numbers, or its lists."""
        given = []
        for turn in range(SINGLES[number]):
            given.append(self.read_number())
        for turn in range(LISTS[number]):
            given.append(self.read_list())
        return given
