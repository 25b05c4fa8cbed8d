"""The clock: times that do not go back."""

from honestrun.answers import refused


class Clock:
    """The last time that was told."""

    EVENTS = ("clock",)

    def __init__(self):
        self.last = 0

    def copy(self):
        """A clock that remembers the same."""
        twin = Clock()
        twin.last = self.last
        return twin

    def answer(self, event):
        """None if the event can be taken, otherwise what is answered to it; nothing changes."""
        if event[2] < self.last:
            return refused(4)
        return None

    def change(self, event):
        """Take an event that can be taken."""
        self.last = event[2]

    def recall(self, last):
        """Remember this last time."""
        self.last = last
