"""The names of files: which names now, with which names after a restart, are possible."""

from honestrun.answers import NO_CALL, TOO_MANY, refused
from honestrun.errors import TooManyPossibilities

NAMES = 4
PAGES = 2
MOST_PAIRS = 60
NO_FILES = (None, None, None, None)
CHANGES = ("create", "remove", "rename")
RULES = {"look": 6, "create": 7, "remove": 8, "rename": 9, "read": 10, "write": 12, "sync": 13}


class Names:
    """All possible pairs of the names now and the names that survive, and the next stamp."""

    EVENTS = ("look", "create", "remove", "rename", "sync_names", "read", "write", "sync", "restart")

    def __init__(self):
        self.pairs = {(NO_FILES, NO_FILES): True}
        self.next_stamp = 0

    def copy(self):
        """Names that remember the same."""
        twin = Names()
        twin.pairs = {pair: True for pair in self.pairs}
        twin.next_stamp = self.next_stamp
        return twin

    def answer(self, event):
        """None if the event can be taken, otherwise what is answered to it; nothing changes."""
        if not self._is_call(event):
            return NO_CALL
        try:
            pairs = self._pairs_after(event)
        except TooManyPossibilities:
            return TOO_MANY
        if not pairs:
            return refused(RULES[event[0]])
        return None

    def change(self, event):
        """Take an event that can be taken."""
        self.pairs = self._pairs_after(event)
        call = _call_of(event)
        if call is not None and call[0] == "create":
            self.next_stamp += 1

    def form(self):
        """The pairs, ascending."""
        return tuple(sorted(self.pairs, key=_order))

    def files_now(self):
        """A dict whose keys are the files that some possible names now have (and perhaps None)."""
        return {stamp: True for now, _ in self.pairs for stamp in now}

    def files_later(self):
        """A dict whose keys are the files that some possible surviving names have (and perhaps None)."""
        return {stamp: True for _, later in self.pairs for stamp in later}

    def recall(self, pairs, next_stamp):
        """Remember these pairs and this next stamp, and nothing else."""
        self.pairs = {pair: True for pair in pairs}
        self.next_stamp = next_stamp

    def _is_call(self, event):
        """Whether there is such a call, or such a cut call, as far as names, stamps and pages go."""
        call = _call_of(event)
        if call is None or call[0] == "sync_names":
            return True
        if call[0] in ("look", "remove"):
            return _is_name(call[2])
        if call[0] == "create":
            return _is_name(call[2]) and call[3] == self.next_stamp
        if call[0] == "rename":
            return _is_name(call[2]) and _is_name(call[3])
        if call[0] == "sync":
            return self._is_given(call[2])
        return self._is_given(call[2]) and 0 <= call[3] < PAGES

    def _is_given(self, stamp):
        """Whether a stamp was given."""
        return 0 <= stamp < self.next_stamp

    def _pairs_after(self, event):
        """The pairs after an event; none if no possible names agree with its answer."""
        pairs = [pair for pair in self.pairs if _agrees(pair[0], event)]
        kind = event[0]
        if kind == "sync_names":
            return {(now, now): True for now, _ in pairs}
        if kind == "restart":
            return _limited(_restarted(pairs, event[1]))
        if kind in CHANGES and event[-1]:
            return _limited(_changed(pairs, event[:-1]))
        return {pair: True for pair in pairs}


def _is_name(name):
    """Whether there is a name with this number."""
    return 0 <= name < NAMES


def _call_of(event):
    """The call that an event tells of, or that a restart cut, if any."""
    if event[0] == "restart":
        return event[1]
    return event


def _agrees(now, event):
    """Whether the names now agree with the answer that an event tells."""
    match event:
        case ("look", _, name, stamp):
            return now[name] == stamp
        case ("create", _, name, _, done):
            return (now[name] is None) == done
        case ("remove", _, name, done):
            return (now[name] is not None) == done
        case ("rename", _, name, _, done):
            return (now[name] is not None) == done
        case ("read", _, stamp, _, text):
            return (stamp in now) == (text is not None)
        case ("write", _, stamp, _, _, done):
            return (stamp in now) == done
        case ("sync", _, stamp, done):
            return (stamp in now) == done
    return True


def _names_after(now, call):
    """The names after a create, remove or rename, None where it would not be done."""
    name = call[2]
    if (now[name] is None) != (call[0] == "create"):
        return None
    names = list(now)
    if call[0] == "create":
        names[name] = call[3]
    else:
        names[name] = None
    if call[0] == "rename":
        # This comes last: a name that is renamed to itself keeps its file.
        names[call[3]] = now[name]
    return tuple(names)


def _changed(pairs, call):
    """The pairs after a change that is done in all of these pairs."""
    after = {}
    for now, later in pairs:
        names = _names_after(now, call)
        after[(names, later)] = True
        after[(names, names)] = True
    return after


def _restarted(pairs, cut):
    """The pairs after a restart that cut a call or none."""
    survivors = {later: True for _, later in pairs}
    if cut is not None and cut[0] in CHANGES:
        for now, _ in pairs:
            names = _names_after(now, cut)
            if names is not None:
                survivors[names] = True
    # A cut sync_names needs no more: the names now are among what may survive in any case.
    return {(names, names): True for names in survivors}


def _limited(pairs):
    """The pairs themselves, if they are not too many."""
    if len(pairs) > MOST_PAIRS:
        raise TooManyPossibilities("more than 60 pairs of names")
    return pairs


def _order(pair):
    """What pairs are sorted by: None comes before all stamps."""
    now, later = pair
    return [-1 if stamp is None else stamp for stamp in now + later]
