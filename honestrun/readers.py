"""Reads from a list of integers what `honestrun.saved` wrote into it."""


class Reader:
    """A list of integers, and how many of them have been read."""

    def __init__(self, saved):
        self.saved = saved
        self.done = 0

    def read_number(self):
        """One integer."""
        self.done += 1
        return self.saved[self.done - 1]

    def read_numbers(self, many):
        """So many integers."""
        return tuple([self.read_number() for _ in range(many)])

    def read_list(self):
        """A list of integers, or a text."""
        return self.read_numbers(self.read_number())

    def read_pairs(self):
        """A list of pairs of integers."""
        return tuple([self.read_numbers(2) for _ in range(self.read_number())])

    def read_blocks(self):
        """The list of the blocks of a line."""
        return tuple([self._read_block() for _ in range(self.read_number())])

    def read_names(self):
        """The list of the pairs of names."""
        return tuple([(self._read_stamps(), self._read_stamps()) for _ in range(self.read_number())])

    def read_pages(self):
        """The list of the entries of pages."""
        return tuple([self._read_entry() for _ in range(self.read_number())])

    def _read_block(self):
        """The members of a block, and how many of its places count."""
        count = self.read_number()
        return (self.read_pairs(), count)

    def _read_stamps(self):
        """The stamps of the four names, None for a name that has no file."""
        return tuple([None if number == 0 else number - 1 for number in self.read_numbers(4)])

    def _read_entry(self):
        """The stamp of a file, a page, its text now or None, and the texts that may survive."""
        stamp, page = self.read_numbers(2)
        now = None
        if self.read_number() == 1:
            now = self.read_list()
        may = tuple([self.read_list() for _ in range(self.read_number())])
        return (stamp, page, now, may)
