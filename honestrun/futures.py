"""Futures that can be told apart by a look at two forms.

If two forms differ in more than in who of the same waiting threads has been woken and where these wait, then among
`futures(form, other)` and `futures(other, form)` is one that is taken up to some event after both pasts, and at this
event after one of them only.
"""

RESTART = ("restart", None)


def futures(form, other):
    """Lists of events, each of which may be taken after the past with this form and not after the other one."""
    running, next_thread, holders, _, _, clock, maps, names, pages, _ = form
    found = [[("start", 0, next_thread)], [("clock", 0, clock)]]
    found += [[("hear", thread, ())] for thread in missing(running, other[0])]
    found += [[("unlock", thread, lock)] for lock, thread in missing(holders, other[2])]
    for base, size in missing(maps, other[6]):
        # If both have memory at this base, the cell behind the smaller piece is free in one of them only.
        found += [[("unmap", 0, base)], [("map", 0, 1, base + size)]]
    for now, later in missing(names, other[7])[:1]:
        found.append(_looks(now) + [RESTART] + _looks(later))
    for entry in missing(pages, other[8]):
        found += _reads(entry, other[8])
    # If more stamps were given here, the next one there was given here. If the names do not differ, no name has it.
    found.append([("sync", 0, other[9], False)])
    return found + _returns(form, other)


def missing(members, others):
    """The members that the others do not have."""
    return [member for member in members if member not in others]


def unlocks(form):
    """Events by which all locks are given up."""
    return [("unlock", thread, lock) for lock, thread in form[2]]


def _looks(names):
    """Events that tell all names."""
    return [("look", 0, name, stamp) for name, stamp in enumerate(names)]


def _reads(entry, others):
    """Futures for a page: texts that it can hold now, or after a restart, and could not by the other entries."""
    stamp, number, now, may = entry
    other_now, other_may = _entry_at(stamp, number, others)
    texts = may if now is None else (now,)
    found = [[("read", 0, stamp, number, text)] for text in texts if text != other_now][:1]
    later = [("read", 0, stamp, number, text) for text in missing(may, other_may)[:1]]
    return found + [[RESTART, event] for event in later]


def _entry_at(stamp, number, entries):
    """The text now and those that may survive of a page, as at the beginning if it has no entry."""
    for other_stamp, other_number, now, may in entries:
        if (other_stamp, other_number) == (stamp, number):
            return now, may
    return (), ((),)


def _returns(form, other):
    """Futures in which a thread goes on and gives up its lock, for threads that wait like this here alone."""
    start = unlocks(form) + [("signal_all", 0, 0), ("signal_all", 0, 1)]
    return [
        start + [("woken", thread), ("unlock", thread, lock)]
        for thread, lock in missing(_waiting(form), _waiting(other))
    ]


def _waiting(form):
    """The pairs of thread and lock of all that wait."""
    return list(form[3]) + [pair for blocks in form[4] for members, _ in blocks for pair in members]
