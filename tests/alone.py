"""The five parts, each alone with its own events: points 26 to 28, over the honest system of `tests.honest`.

A part is a list of the worlds that agree with its own events so far; of a world it looks only at what is its own.
"""

from tests.honest import Crowd, after, is_call

EVENTS = {
    "clock": ("clock",),
    "maps": ("map", "unmap", "restart"),
    "threads": ("start", "end", "lock", "unlock", "wait", "signal", "signal_all", "woken", "restart"),
    "names": ("look", "create", "remove", "rename", "sync_names", "read", "write", "sync", "restart"),
    "pages": ("read", "write", "sync", "restart"),
}
PART_RULES = {"clock": (4,), "maps": (5,), "threads": (1, 2, 3), "names": (6, 7, 8, 9, 10, 12, 13), "pages": (11,)}
EMPTY = frozenset([((), ())])


def numbers_of(history, part, before):
    """The numbers of all events of a part before an event."""
    return tuple(number for number in range(before) if history[number][0] in EVENTS[part])


def is_call_by_any(world, event):
    """Point 8, but for whether the calling thread runs."""
    call = event[1] if event[0] == "restart" else event
    return call is None or is_call(world._replace(running=frozenset([call[1]])), call)


def names_after(world, event):
    """What an honest system does of an event that is seen by its names only."""
    kind = event[0]
    if kind in ("read", "write", "sync"):
        told = event[4] is not None if kind == "read" else event[-1]
        return [world] if told == (event[2] in world.now) else []
    if kind == "restart" and event[1] is not None and event[1][0] in ("write", "sync"):
        return after(world, ("restart", None))
    return after(world, event)


class Worlds(Crowd):
    """The parts whose worlds are those of the honest system."""

    def __init__(self, part):
        super().__init__()
        self.part = part

    def _is_call(self, event):
        if self.part == "clock":
            return True
        if self.part == "names":
            return is_call_by_any(self.worlds[0], event)
        if event[0] == "restart":
            return True
        if self.part == "maps":
            return is_call_by_any(self.worlds[0], event)
        return is_call(self.worlds[0], event)

    def _after(self, world, event):
        if self.part == "names":
            return names_after(world, event)
        return after(world, event if event[0] != "restart" else ("restart", None))


class AllPages:
    """The part of the pages: for each page the pairs of a text now and a text that survives which are possible."""

    def __init__(self):
        self.pairs = {}

    def take(self, event):
        kind = event[0]
        if kind == "restart":
            self._restart(event[1])
        elif kind == "read":
            return self._read(event[2:4], event[4])
        elif kind == "write" and event[-1]:
            self._write(event[2:4], event[4], set())
        elif kind == "sync" and event[-1]:
            for page in self.pairs:
                if page[0] == event[2]:
                    self.pairs[page] = {(now, now) for now, _ in self.pairs[page]}
        return None

    def _read(self, page, text):
        if text is None:
            return None
        pairs = {pair for pair in self.pairs.get(page, EMPTY) if pair[0] == text}
        if not pairs:
            return ("refused", 11)
        self.pairs[page] = pairs
        return None

    def _write(self, page, text, kept):
        pairs = self.pairs.get(page, EMPTY)
        self.pairs[page] = kept | {(text, later) for _, later in pairs} | {(text, text)}

    def _restart(self, cut):
        if cut is not None and cut[0] == "write":
            self._write(cut[2:4], cut[4], self.pairs.get(cut[2:4], EMPTY))
        self.pairs = {page: {(later, later) for _, later in pairs} for page, pairs in self.pairs.items()}


def refusal_of(history, part):
    """The refusal of a part alone: of the first of its events that it does not take, if a rule refuses it."""
    alone = AllPages() if part == "pages" else Worlds(part)
    for number, event in enumerate(history):
        if event[0] in EVENTS[part]:
            answer = alone.take(event)
            if answer is not None:
                if answer[0] != "refused":
                    return None
                return (number, answer[1], part, numbers_of(history, part, number))
    return None
