"""The memory that is mapped."""

from honestrun.answers import NO_CALL, refused

MOST_CELLS = 1000
LAST_CELL = 65535


class Maps:
    """The pieces of memory that are mapped: the size of each one by its base."""

    EVENTS = ("map", "unmap", "restart")

    def __init__(self):
        self.sizes = {}

    def copy(self):
        """Maps that remember the same."""
        twin = Maps()
        twin.sizes = dict(self.sizes)
        return twin

    def answer(self, event):
        """None if the event can be taken, otherwise what is answered to it; nothing changes."""
        match event:
            case ("map", _, size, base):
                if not 1 <= size <= MOST_CELLS or base + size - 1 > LAST_CELL:
                    return NO_CALL
                if self._is_mapped(base, size):
                    return refused(5)
            case ("unmap", _, base):
                if base not in self.sizes:
                    return NO_CALL
        return None

    def change(self, event):
        """Take an event that can be taken."""
        match event:
            case ("map", _, size, base):
                self.sizes[base] = size
            case ("unmap", _, base):
                del self.sizes[base]
            case ("restart", _):
                self.sizes = {}

    def form(self):
        """The pairs of base and size, ascending."""
        return tuple(sorted(self.sizes.items()))

    def recall(self, pairs):
        """Remember these pairs of base and size, and nothing else."""
        self.sizes = dict(pairs)

    def _is_mapped(self, base, size):
        """Whether one of the cells from the base on is mapped."""
        return any([start < base + size and base < start + self.sizes[start] for start in self.sizes])
