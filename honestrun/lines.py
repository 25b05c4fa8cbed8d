"""The line of the threads that wait at a condition, and what is known of who has been woken."""


class Line:
    """The places of those that wait, in the order in which they came.

    A place is a tuple (thread, lock, counts). As many threads have been woken as places count, and of the
    threads after any place at most as many as places after it count.
    """

    def __init__(self):
        self.places = []

    def copy(self):
        """A line that remembers the same."""
        twin = Line()
        twin.places = list(self.places)
        return twin

    def wait(self, thread, lock):
        """A thread that gave up its lock comes to the end of the line."""
        self.places.append((thread, lock, False))

    def signal(self):
        """One thread that has not been woken is woken, if there is one."""
        idle = [at for at, place in enumerate(self.places) if not place[2]]
        if idle:
            self._set_counts(idle[-1], True)

    def signal_all(self):
        """All threads are woken."""
        self.places = [(thread, lock, True) for thread, lock, _ in self.places]

    def index_of(self, thread):
        """The index of the place of a thread, None if it does not wait here."""
        for at, place in enumerate(self.places):
            if place[0] == thread:
                return at
        return None

    def lock_of(self, thread):
        """The lock that a thread in line gave up."""
        return self.places[self.index_of(thread)][1]

    def can_be_woken(self, thread):
        """Whether it is possible that a thread in line has been woken."""
        return bool(self._counting_from(self.index_of(thread)))

    def go_on(self, thread):
        """A thread that can have been woken leaves the line."""
        at = self.index_of(thread)
        counts = self.places[at][2]
        del self.places[at]
        if not counts:
            self._set_counts(self._counting_from(at)[0], False)

    def woken(self):
        """The pairs of thread and lock of those that surely have been woken, in line order."""
        return [(thread, lock) for thread, lock, _ in self.places[:self._front()]]

    def blocks(self):
        """The blocks of the places behind those that surely have been woken."""
        blocks = []
        counted = True
        for place in self.places[self._front():]:
            if counted and not place[2]:
                blocks.append([])
            counted = place[2]
            blocks[-1].append(place)
        return tuple([_block(places) for places in blocks])

    def add_woken(self, pairs):
        """Threads that surely have been woken, each with its lock, come to the end of a line of nobody else."""
        self.places += [(thread, lock, True) for thread, lock in pairs]

    def add_block(self, members, count):
        """A block comes to the end of the line."""
        # In which order its members came makes no difference any more, but the places that count are the last ones.
        idle = len(members) - count
        self.places += [(thread, lock, at >= idle) for at, (thread, lock) in enumerate(members)]

    def _front(self):
        """How many places at the beginning of the line count before the first one that does not."""
        for at, place in enumerate(self.places):
            if not place[2]:
                return at
        return len(self.places)

    def _counting_from(self, start):
        """The indexes of the places that count, from an index on."""
        return [at for at, place in enumerate(self.places) if at >= start and place[2]]

    def _set_counts(self, at, counts):
        """Let the place at an index count or not."""
        thread, lock, _ = self.places[at]
        self.places[at] = (thread, lock, counts)


def _block(places):
    """The members of a block, ascending, and how many of its places count."""
    members = sorted([(thread, lock) for thread, lock, _ in places])
    return (tuple(members), len([place for place in places if place[2]]))
